/- Texts of this claim, joined (N1). -/
import Derived.Test.YtdoadngmgmdlbaaDoorZN0

set_option linter.unusedVariables false
set_option linter.unusedSimpArgs false
set_option maxHeartbeats 4000000
section
namespace Go.Proofs.YtdoadngmgmdlbaaDoor.Sha5
open Go Go.RowKit
open Rely Auto Own
def Qc6 : List Int:=cubesN.map Int.ofNat
def Qbc : List Int:=[0x6a09e667f3bcc908,0xbb67ae8584caa73b,0x3c6ef372fe94f82b,0xa54ff53a5f1d36f1,0x510e527fade682d1,0x9b05688c2b3e6c1f,0x1f83d9abfb41bd6b,0x5be0cd19137e2179]
theorem QnI (i : Nat) (h:i<80):nth Qc6 i=wv (wget KK i):=by
  have:∀ i:Fin 80,nth Qc6 i.1=wv (wget KK i.1):=by decide +kernel
  exact this ⟨i,h⟩
def mixW (p q:List Wd) (i:Nat):List Wd:=(List.zipWith (· + ·) p q).take i++p.drop i
theorem mix_len (s r:S8) {i:Nat} (hi:i≤8):((mixW s.l r.l i).map wv).length=8:=by
  rcases (show i=0∨i=1∨i=2∨i=3∨i=4∨i=5∨i=6∨i=7∨i=8 by omega) with rfl | rfl | rfl | rfl | rfl | rfl | rfl | rfl | rfl <;> rfl
theorem QkW (s r:S8) {i:Nat} (hi:i<8):nth ((mixW s.l r.l i).map wv) i=wv (wget s.l i):=by
  rcases (show i=0∨i=1∨i=2∨i=3∨i=4∨i=5∨i=6∨i=7 by omega) with rfl | rfl | rfl | rfl | rfl | rfl | rfl | rfl <;> rfl
theorem mix_set (s r:S8) {i:Nat} (hi:i<8):((mixW s.l r.l i).map wv).set i (wv (wget s.l i+wget r.l i))=(mixW s.l r.l (i+1)).map wv:=by
  rcases (show i=0∨i=1∨i=2∨i=3∨i=4∨i=5∨i=6∨i=7 by omega) with rfl | rfl | rfl | rfl | rfl | rfl | rfl | rfl <;> rfl
theorem QqS (g : Nat) (s:S8) (b:List Int) (hbl:b.length=128) (hbb:Qal b) (m:Int) (tc:TypeId) (w:World) (hc:w.heap[5]? = some (.cells (ints .u64 Qc6) tc)) (hg:w.heap[g]? = some (.cells (cat [ints .u64 ([wv s.a,wv s.b,wv s.c,wv s.d,wv s.e,wv s.f,wv s.g,wv s.h]),ints .u8 (b),#[.int .i64 m]]) 128)) :
  Calls Tryd.prog 96 #[.pointer (some ⟨g,0,none⟩)] w (fun e W=>e=.returned (.tuple #[])∧ExtB g w W∧W.heap[g]? = some (.cells (cat [ints .u64 ((blk s b).l.map wv),ints .u8 b,#[.int .i64 m]]) 128)):=by
 have hl80:((w80 b).map wv).length=80:=by rw [List.length_map,Qc7]
 refine enter 135 [(0,.pointer (some ⟨g,0,none⟩))] Tryd.func96 rfl rfl kj rfl ?_
 refine wp_seq_k fun K3 hK3=>?_
 refine Qac ?_
 refine Qab (.pointer (some ⟨g,0,none⟩)) 20 rfl kj kj ?_
 refine Qab (.pointer (some ⟨g,0,none⟩)) 21 rfl kj kj ?_
 refine Qab (.pointer (some ⟨g,8,none⟩)) 22 rfl kj kj ?_
 refine Qab (.agg (ints .u8 (b))) 23 rfl kj (Qaw 126 _ g 8 128 _ _ _ hg rfl kj (QaH [ints .u64 ([wv s.a,wv s.b,wv s.c,wv s.d,wv s.e,wv s.f,wv s.g,wv s.h])] [ints .u8 (b)] [#[.int .i64 m]] 8 kj) kj (isz (n:=128) kj ((Qae _ _).trans hbl))) ?_
 refine Qar (.agg (ints .u64 ((w80 b).map wv))) 101 #[.agg (ints .u8 (b))] 24 rfl kj kj ((Qoe b hbl hbb) _) fun W1 e1=>?_
 have x1:ExtB g w W1:=ExtB.ext (ExtB.refl g w) e1
 refine Qaj (ints .u64 (List.replicate 80 0)) 132 2 rfl kj kj fun g4 W2 l4 e2 r4_2=>?_
 have x2:ExtB g w W2:=ExtB.ext x1 e2
 have b4:w.heap.size≤g4:=qT x1.size l4
 refine Qak g4 _ (ints .u64 ((w80 b).map wv)) 132 r4_2 rfl kj (Qah 132 _ _ g4 132 _ _ r4_2 rfl kj kj (isz (n:=80) kj ((Qae _ _).trans hl80)) (eqsz (n:=80) ((Qae _ _).trans (qZ (n:=80))) ((Qae _ _).trans hl80)) (ints_one _ _)) fun W3 p3 r4_3=>?_
 have x3:ExtB g w W3:=ExtB.putsN x2 p3 b4
 refine Qaf ?_
 refine hK3 _ _ ?_
 refine wp_seq_k fun K5 hK5=>?_
 refine Qac ?_
 refine Qab (.pointer (some ⟨g,0,none⟩)) 25 rfl kj kj ?_
 refine Qab (.pointer (some ⟨g,0,none⟩)) 26 rfl kj kj ?_
 refine Qab (.pointer (some ⟨g,0,none⟩)) 27 rfl kj kj ?_
 have r2_1:=(Qaa hg e1)
 have r2_2:=(Qaa r2_1 e2)
 have r2_3:=(Puts.row p3 r2_2 (Qad r2_1 l4))
 refine Qab (.agg (ints .u64 ([wv s.a,wv s.b,wv s.c,wv s.d,wv s.e,wv s.f,wv s.g,wv s.h]))) 28 rfl kj (Qaw 85 _ g 0 128 _ _ _ r2_3 rfl kj (QaH [] [ints .u64 ([wv s.a,wv s.b,wv s.c,wv s.d,wv s.e,wv s.f,wv s.g,wv s.h])] [ints .u8 (b),#[.int .i64 m]] 0 kj) kj (isz (n:=8) kj kj)) ?_
 refine Qaj (ints .u64 ([0,0,0,0,0,0,0,0])) 85 3 rfl kj kj fun g6 W4 l6 e4 r6_4=>?_
 have x4:ExtB g w W4:=ExtB.ext x3 e4
 have b6:w.heap.size≤g6:=qT x3.size l6
 refine Qak g6 _ (ints .u64 ([wv s.a,wv s.b,wv s.c,wv s.d,wv s.e,wv s.f,wv s.g,wv s.h])) 85 r6_4 rfl kj (Qah 85 _ _ g6 85 _ _ r6_4 rfl kj kj (isz (n:=8) kj kj) (eqsz (n:=8) kj kj) (ints_one _ _)) fun W5 p5 r6_5=>?_
 have x5:ExtB g w W5:=ExtB.putsN x4 p5 b6
 refine Qaf ?_
 refine hK5 _ _ ?_
 refine wp_seq_k fun K7 hK7=>?_
 refine QaK 23 [⟨none,[(3,none)]⟩,⟨none,[(29,some 0)]⟩,⟨none,[(3,none)]⟩,⟨none,[(31,some 2)]⟩,⟨none,[(3,none)]⟩,⟨none,[(33,some 4)]⟩,⟨none,[(3,none)]⟩,⟨none,[(35,some 6)]⟩,⟨none,[(3,none)]⟩,⟨none,[(37,some 8)]⟩,⟨none,[(3,none)]⟩,⟨none,[(39,some 10)]⟩,⟨none,[(3,none)]⟩,⟨none,[(41,some 12)]⟩,⟨none,[(3,none)]⟩,⟨none,[(43,some 14)]⟩,⟨none,[(30,some 1)]⟩,⟨none,[(32,some 3)]⟩,⟨none,[(34,some 5)]⟩,⟨none,[(36,some 7)]⟩,⟨none,[(38,some 9)]⟩,⟨none,[(40,some 11)]⟩,⟨none,[(42,some 13)]⟩] kj kj fun F hF=>?_
 refine Qav (.pointer (some ⟨g6,0,none⟩)) kj kj (fun W=>kj) ?_
 refine Qaq (.int .u64 (wv s.a)) kj kj (fun W hR=>(Qam 46 _ g6 0 85 _ (.int .u64 (wv s.a)) _ (Qaa (Qaa r6_5 (Qai _)) hR) rfl kj kj kj)) ?_
 refine Qav (.pointer (some ⟨g6,1,none⟩)) kj kj (fun W=>kj) ?_
 refine Qaq (.int .u64 (wv s.b)) kj kj (fun W hR=>(Qam 46 _ g6 1 85 _ (.int .u64 (wv s.b)) _ (Qaa (Qaa r6_5 (Qai _)) hR) rfl kj kj kj)) ?_
 refine Qav (.pointer (some ⟨g6,2,none⟩)) kj kj (fun W=>kj) ?_
 refine Qaq (.int .u64 (wv s.c)) kj kj (fun W hR=>(Qam 46 _ g6 2 85 _ (.int .u64 (wv s.c)) _ (Qaa (Qaa r6_5 (Qai _)) hR) rfl kj kj kj)) ?_
 refine Qav (.pointer (some ⟨g6,3,none⟩)) kj kj (fun W=>kj) ?_
 refine Qaq (.int .u64 (wv s.d)) kj kj (fun W hR=>(Qam 46 _ g6 3 85 _ (.int .u64 (wv s.d)) _ (Qaa (Qaa r6_5 (Qai _)) hR) rfl kj kj kj)) ?_
 refine Qav (.pointer (some ⟨g6,4,none⟩)) kj kj (fun W=>kj) ?_
 refine Qaq (.int .u64 (wv s.e)) kj kj (fun W hR=>(Qam 46 _ g6 4 85 _ (.int .u64 (wv s.e)) _ (Qaa (Qaa r6_5 (Qai _)) hR) rfl kj kj kj)) ?_
 refine Qav (.pointer (some ⟨g6,5,none⟩)) kj kj (fun W=>kj) ?_
 refine Qaq (.int .u64 (wv s.f)) kj kj (fun W hR=>(Qam 46 _ g6 5 85 _ (.int .u64 (wv s.f)) _ (Qaa (Qaa r6_5 (Qai _)) hR) rfl kj kj kj)) ?_
 refine Qav (.pointer (some ⟨g6,6,none⟩)) kj kj (fun W=>kj) ?_
 refine Qaq (.int .u64 (wv s.g)) kj kj (fun W hR=>(Qam 46 _ g6 6 85 _ (.int .u64 (wv s.g)) _ (Qaa (Qaa r6_5 (Qai _)) hR) rfl kj kj kj)) ?_
 refine Qav (.pointer (some ⟨g6,7,none⟩)) kj kj (fun W=>kj) ?_
 refine Qaq (.int .u64 (wv s.h)) kj kj (fun W hR=>(Qam 46 _ g6 7 85 _ (.int .u64 (wv s.h)) _ (Qaa (Qaa r6_5 (Qai _)) hR) rfl kj kj kj)) ?_
 refine Qav (.int .u64 (wv s.a)) kj kj (fun W=>kj) ?_
 refine Qav (.int .u64 (wv s.b)) kj kj (fun W=>kj) ?_
 refine Qav (.int .u64 (wv s.c)) kj kj (fun W=>kj) ?_
 refine Qav (.int .u64 (wv s.d)) kj kj (fun W=>kj) ?_
 refine Qav (.int .u64 (wv s.e)) kj kj (fun W=>kj) ?_
 refine Qav (.int .u64 (wv s.f)) kj kj (fun W=>kj) ?_
 refine Qav (.int .u64 (wv s.g)) kj kj (fun W=>kj) ?_
 refine Qa9 (hF _ kj fun W6 e6=>?_)
 simp only [ups,up,Kn.val,List.take_succ_cons,List.take_zero,List.drop_succ_cons,List.drop_zero,List.nil_append,List.cons_append]
 clear hF
 have x6:ExtB g w W6:=ExtB.ext x5 e6
 refine Qab (.int .u64 (wv s.h)) 11 rfl kj kj ?_
 refine Qaf ?_
 refine hK7 _ _ ?_
 refine wp_seq_k fun K8 hK8=>?_
 refine wp_seq_k fun K9 hK9=>?_
 refine Qac ?_
 have r4_4:=(Qaa r4_3 e4)
 have r4_5:=(Puts.row p5 r4_4 (Qad r4_3 l6))
 have r4_6:=(Qaa r4_5 e6)
 refine Qab (.agg (ints .u64 ((w80 b).map wv))) 45 rfl kj (Qag 132 _ g4 132 _ _ r4_6 rfl kj kj (isz (n:=80) kj ((Qae _ _).trans hl80))) ?_
 refine Qab (.int .i64 0) 46 rfl kj kj ?_
 refine Qaf ?_
 refine hK9 _ _ ?_
 refine wp_block ?_
 refine QaI (fun (s1:Nat)=>[(0,.pointer (some ⟨g,0,none⟩)),(45,.agg (ints .u64 ((w80 b).map wv))),(46,.int .i64 ((s1:Nat):Int)),(4,.int .u64 (wv ((rnds KK (w80 b) s s1).a))),(5,.int .u64 (wv ((rnds KK (w80 b) s s1).b))),(6,.int .u64 (wv ((rnds KK (w80 b) s s1).c))),(7,.int .u64 (wv ((rnds KK (w80 b) s s1).d))),(8,.int .u64 (wv ((rnds KK (w80 b) s s1).e))),(9,.int .u64 (wv ((rnds KK (w80 b) s s1).f))),(10,.int .u64 (wv ((rnds KK (w80 b) s s1).g))),(11,.int .u64 (wv ((rnds KK (w80 b) s s1).h)))]) (fun (s1:Nat) W=>(s1≤80)∧(Ext W6 W)∧(ExtB g w W)) (fun (s1:Nat)=>80-s1) 0 ⟨rfl,rfl,rfl,rfl,rfl,rfl,rfl,rfl,rfl,rfl,rfl,trivial⟩ ⟨(Nat.zero_le _),(Rely.Ext.refl W6),x6⟩ fun s1 X1 V1 hI1=>?_
 obtain ⟨i,hs1⟩:∃ z,z=s1:=⟨_,rfl⟩
 subst hs1
 obtain ⟨hi,kk1,xx1⟩:=hI1
 replace hi:i≤80:=hi
 replace kk1:Ext W6 V1:=kk1
 replace xx1:ExtB g w V1:=xx1
 have e7:=kk1
 refine wp_seq_k fun K10 hK10=>?_
 refine Qac ?_
 refine Qab (.bool (decide (((i:Nat):Int)<80))) 47 rfl kj kj ?_
 refine Qaf ?_
 refine hK10 _ _ ?_
 refine wp_seq_k fun K11 hK11=>?_
 refine Qa5 (t:=decide (((i:Nat):Int)<80)) kj (fun c12=>?_) (fun c12=>?_)
 ·skip
  have hlt47:i<80:=by have:=of_decide_eq_true c12; omega
  refine wp_skip ?_
  refine hK11 _ _ ?_
  refine wp_seq_k fun K13 hK13=>?_
  refine wp_block ?_
  refine wp_seq_k fun K14 hK14=>?_
  refine Qac ?_
  refine Qab (.int .i64 ((i:Nat):Int)) 48 rfl kj kj ?_
  refine Qab (.int .u64 (wv (wget (w80 b) i))) 49 rfl kj (run_index_il 132 _ _ .i64 .u64 ((w80 b).map wv) i 80 46 (wv (wget (w80 b) i)) rfl kj kj kj kj kj hl80 (by omega) (nth_map _ _)) ?_
  refine Qab (.int .i64 ((i:Nat):Int)) 12 rfl kj kj ?_
  refine Qab (.int .u64 (wv (wget (w80 b) i))) 13 rfl kj kj ?_
  refine Qaf ?_
  refine hK14 _ _ ?_
  refine wp_seq_k fun K15 hK15=>?_
  refine Qac ?_
  refine Qab (.int .u64 (wv ((rnds KK (w80 b) s i).e))) 50 rfl kj kj ?_
  refine Qar (.int .u64 (wv (rr ((rnds KK (w80 b) s i).e) 14))) 102 #[.int .u64 (wv ((rnds KK (w80 b) s i).e)),.int .i64 (-14)] 51 rfl kj kj ((rotC ((rnds KK (w80 b) s i).e) 14 (-14) (by decide) (by decide) (by decide)) _) fun W8 e8=>?_
  have x8:ExtB g w W8:=ExtB.ext xx1 e8
  refine Qab (.int .u64 (wv ((rnds KK (w80 b) s i).e))) 52 rfl kj kj ?_
  refine Qar (.int .u64 (wv (rr ((rnds KK (w80 b) s i).e) 18))) 102 #[.int .u64 (wv ((rnds KK (w80 b) s i).e)),.int .i64 (-18)] 53 rfl kj kj ((rotC ((rnds KK (w80 b) s i).e) 18 (-18) (by decide) (by decide) (by decide)) _) fun W9 e9=>?_
  have x9:ExtB g w W9:=ExtB.ext x8 e9
  refine Qab (.int .u64 (wv (((rr ((rnds KK (w80 b) s i).e) 14))^^^((rr ((rnds KK (w80 b) s i).e) 18))))) 54 rfl kj (Qan (u:=.int .u64 (bits .xor .u64 (wv (rr ((rnds KK (w80 b) s i).e) 14)) (wv (rr ((rnds KK (w80 b) s i).e) 18)))) kj (congrArg (Value.int .u64) (w_xor _ _))) ?_
  refine Qab (.int .u64 (wv ((rnds KK (w80 b) s i).e))) 55 rfl kj kj ?_
  refine Qar (.int .u64 (wv (rr ((rnds KK (w80 b) s i).e) 41))) 102 #[.int .u64 (wv ((rnds KK (w80 b) s i).e)),.int .i64 (-41)] 56 rfl kj kj ((rotC ((rnds KK (w80 b) s i).e) 41 (-41) (by decide) (by decide) (by decide)) _) fun W10 e10=>?_
  have x10:ExtB g w W10:=ExtB.ext x9 e10
  refine Qab (.int .u64 (wv (((((rr ((rnds KK (w80 b) s i).e) 14))^^^((rr ((rnds KK (w80 b) s i).e) 18))))^^^((rr ((rnds KK (w80 b) s i).e) 41))))) 57 rfl kj (Qan (u:=.int .u64 (bits .xor .u64 (wv (((rr ((rnds KK (w80 b) s i).e) 14))^^^((rr ((rnds KK (w80 b) s i).e) 18)))) (wv (rr ((rnds KK (w80 b) s i).e) 41)))) kj (congrArg (Value.int .u64) (w_xor _ _))) ?_
  refine Qab (.int .u64 (wv (((((rr ((rnds KK (w80 b) s i).e) 14))^^^((rr ((rnds KK (w80 b) s i).e) 18))))^^^((rr ((rnds KK (w80 b) s i).e) 41))))) 14 rfl kj kj ?_
  refine Qaf ?_
  refine hK15 _ _ ?_
  refine wp_seq_k fun K16 hK16=>?_
  refine Qac ?_
  refine Qab (.int .u64 (wv ((rnds KK (w80 b) s i).a))) 58 rfl kj kj ?_
  refine Qar (.int .u64 (wv (rr ((rnds KK (w80 b) s i).a) 28))) 102 #[.int .u64 (wv ((rnds KK (w80 b) s i).a)),.int .i64 (-28)] 59 rfl kj kj ((rotC ((rnds KK (w80 b) s i).a) 28 (-28) (by decide) (by decide) (by decide)) _) fun W11 e11=>?_
  have x11:ExtB g w W11:=ExtB.ext x10 e11
  refine Qab (.int .u64 (wv ((rnds KK (w80 b) s i).a))) 60 rfl kj kj ?_
  refine Qar (.int .u64 (wv (rr ((rnds KK (w80 b) s i).a) 34))) 102 #[.int .u64 (wv ((rnds KK (w80 b) s i).a)),.int .i64 (-34)] 61 rfl kj kj ((rotC ((rnds KK (w80 b) s i).a) 34 (-34) (by decide) (by decide) (by decide)) _) fun W12 e12=>?_
  have x12:ExtB g w W12:=ExtB.ext x11 e12
  refine Qab (.int .u64 (wv (((rr ((rnds KK (w80 b) s i).a) 28))^^^((rr ((rnds KK (w80 b) s i).a) 34))))) 62 rfl kj (Qan (u:=.int .u64 (bits .xor .u64 (wv (rr ((rnds KK (w80 b) s i).a) 28)) (wv (rr ((rnds KK (w80 b) s i).a) 34)))) kj (congrArg (Value.int .u64) (w_xor _ _))) ?_
  refine Qab (.int .u64 (wv ((rnds KK (w80 b) s i).a))) 63 rfl kj kj ?_
  refine Qar (.int .u64 (wv (rr ((rnds KK (w80 b) s i).a) 39))) 102 #[.int .u64 (wv ((rnds KK (w80 b) s i).a)),.int .i64 (-39)] 64 rfl kj kj ((rotC ((rnds KK (w80 b) s i).a) 39 (-39) (by decide) (by decide) (by decide)) _) fun W13 e13=>?_
  have x13:ExtB g w W13:=ExtB.ext x12 e13
  refine Qab (.int .u64 (wv (((((rr ((rnds KK (w80 b) s i).a) 28))^^^((rr ((rnds KK (w80 b) s i).a) 34))))^^^((rr ((rnds KK (w80 b) s i).a) 39))))) 65 rfl kj (Qan (u:=.int .u64 (bits .xor .u64 (wv (((rr ((rnds KK (w80 b) s i).a) 28))^^^((rr ((rnds KK (w80 b) s i).a) 34)))) (wv (rr ((rnds KK (w80 b) s i).a) 39)))) kj (congrArg (Value.int .u64) (w_xor _ _))) ?_
  refine Qab (.int .u64 (wv (((((rr ((rnds KK (w80 b) s i).a) 28))^^^((rr ((rnds KK (w80 b) s i).a) 34))))^^^((rr ((rnds KK (w80 b) s i).a) 39))))) 15 rfl kj kj ?_
  refine Qaf ?_
  refine hK16 _ _ ?_
  refine wp_seq_k fun K17 hK17=>?_
  refine Qac ?_
  refine Qab (.int .u64 (wv ((rnds KK (w80 b) s i).h))) 66 rfl kj kj ?_
  refine Qab (.int .u64 (wv (((((rr ((rnds KK (w80 b) s i).e) 14))^^^((rr ((rnds KK (w80 b) s i).e) 18))))^^^((rr ((rnds KK (w80 b) s i).e) 41))))) 67 rfl kj kj ?_
  refine Qab (.int .u64 (wv ((((rnds KK (w80 b) s i).h))+((((((rr ((rnds KK (w80 b) s i).e) 14))^^^((rr ((rnds KK (w80 b) s i).e) 18))))^^^((rr ((rnds KK (w80 b) s i).e) 41))))))) 68 rfl kj (Qan (u:=.int .u64 (IntKind.u64.wrap (wv ((rnds KK (w80 b) s i).h)+wv (((((rr ((rnds KK (w80 b) s i).e) 14))^^^((rr ((rnds KK (w80 b) s i).e) 18))))^^^((rr ((rnds KK (w80 b) s i).e) 41)))))) kj (congrArg (Value.int .u64) (w_add _ _))) ?_
  refine Qab (.int .u64 (wv ((rnds KK (w80 b) s i).e))) 69 rfl kj kj ?_
  refine Qab (.int .u64 (wv ((rnds KK (w80 b) s i).f))) 70 rfl kj kj ?_
  refine Qab (.int .u64 (wv ((((rnds KK (w80 b) s i).e))&&&(((rnds KK (w80 b) s i).f))))) 71 rfl kj (Qan (u:=.int .u64 (bits .and .u64 (wv ((rnds KK (w80 b) s i).e)) (wv ((rnds KK (w80 b) s i).f)))) kj (congrArg (Value.int .u64) (w_and _ _))) ?_
  refine Qab (.int .u64 (wv ((rnds KK (w80 b) s i).e))) 72 rfl kj kj ?_
  refine Qab (.int .u64 (wv (~~~(((rnds KK (w80 b) s i).e))))) 73 rfl kj (Qan (u:=.int .u64 (bits .xor .u64 18446744073709551615 (wv ((rnds KK (w80 b) s i).e)))) kj (congrArg (Value.int .u64) (w_com _))) ?_
  refine Qab (.int .u64 (wv ((rnds KK (w80 b) s i).g))) 74 rfl kj kj ?_
  refine Qab (.int .u64 (wv (((~~~(((rnds KK (w80 b) s i).e))))&&&(((rnds KK (w80 b) s i).g))))) 75 rfl kj (Qan (u:=.int .u64 (bits .and .u64 (wv (~~~(((rnds KK (w80 b) s i).e)))) (wv ((rnds KK (w80 b) s i).g)))) kj (congrArg (Value.int .u64) (w_and _ _))) ?_
  refine Qab (.int .u64 (wv ((((((rnds KK (w80 b) s i).e))&&&(((rnds KK (w80 b) s i).f))))^^^((((~~~(((rnds KK (w80 b) s i).e))))&&&(((rnds KK (w80 b) s i).g))))))) 76 rfl kj (Qan (u:=.int .u64 (bits .xor .u64 (wv ((((rnds KK (w80 b) s i).e))&&&(((rnds KK (w80 b) s i).f)))) (wv (((~~~(((rnds KK (w80 b) s i).e))))&&&(((rnds KK (w80 b) s i).g)))))) kj (congrArg (Value.int .u64) (w_xor _ _))) ?_
  refine Qab (.int .u64 (wv ((((((rnds KK (w80 b) s i).h))+((((((rr ((rnds KK (w80 b) s i).e) 14))^^^((rr ((rnds KK (w80 b) s i).e) 18))))^^^((rr ((rnds KK (w80 b) s i).e) 41))))))+(((((((rnds KK (w80 b) s i).e))&&&(((rnds KK (w80 b) s i).f))))^^^((((~~~(((rnds KK (w80 b) s i).e))))&&&(((rnds KK (w80 b) s i).g))))))))) 77 rfl kj (Qan (u:=.int .u64 (IntKind.u64.wrap (wv ((((rnds KK (w80 b) s i).h))+((((((rr ((rnds KK (w80 b) s i).e) 14))^^^((rr ((rnds KK (w80 b) s i).e) 18))))^^^((rr ((rnds KK (w80 b) s i).e) 41)))))+wv ((((((rnds KK (w80 b) s i).e))&&&(((rnds KK (w80 b) s i).f))))^^^((((~~~(((rnds KK (w80 b) s i).e))))&&&(((rnds KK (w80 b) s i).g)))))))) kj (congrArg (Value.int .u64) (w_add _ _))) ?_
  refine Qab (.int .i64 ((i:Nat):Int)) 78 rfl kj kj ?_
  refine Qab (.pointer (some ⟨5,i,none⟩)) 79 rfl kj (QaD _ _ _ .i64 (i) _ 80 46 rfl kj kj kj kj (by omega)) ?_
  have r1_1:=(Qaa hc e1)
  have r1_2:=(Qaa r1_1 e2)
  have r1_3:=(Puts.row p3 r1_2 (Qad r1_1 l4))
  have r1_4:=(Qaa r1_3 e4)
  have r1_5:=(Puts.row p5 r1_4 (Qad r1_3 l6))
  have r1_6:=(Qaa r1_5 e6)
  have r1_7:=(Qaa r1_6 e7)
  have r1_8:=(Qaa r1_7 e8)
  have r1_9:=(Qaa r1_8 e9)
  have r1_10:=(Qaa r1_9 e10)
  have r1_11:=(Qaa r1_10 e11)
  have r1_12:=(Qaa r1_11 e12)
  have r1_13:=(Qaa r1_12 e13)
  refine Qab (.int .u64 (wv (wget KK i))) 80 rfl kj (Qam 46 _ 5 i tc _ (.int .u64 (wv (wget KK i))) _ r1_13 rfl kj ((Qas _ _ _ (Nat.lt_of_lt_of_eq (by omega) (show Qc6.length=80 from rfl).symm)).trans (congrArg (fun z=>some (Value.int .u64 z)) (QnI i hlt47))) kj) ?_
  refine Qab (.int .u64 (wv ((((((((rnds KK (w80 b) s i).h))+((((((rr ((rnds KK (w80 b) s i).e) 14))^^^((rr ((rnds KK (w80 b) s i).e) 18))))^^^((rr ((rnds KK (w80 b) s i).e) 41))))))+(((((((rnds KK (w80 b) s i).e))&&&(((rnds KK (w80 b) s i).f))))^^^((((~~~(((rnds KK (w80 b) s i).e))))&&&(((rnds KK (w80 b) s i).g))))))))+((wget KK i))))) 81 rfl kj (Qan (u:=.int .u64 (IntKind.u64.wrap (wv ((((((rnds KK (w80 b) s i).h))+((((((rr ((rnds KK (w80 b) s i).e) 14))^^^((rr ((rnds KK (w80 b) s i).e) 18))))^^^((rr ((rnds KK (w80 b) s i).e) 41))))))+(((((((rnds KK (w80 b) s i).e))&&&(((rnds KK (w80 b) s i).f))))^^^((((~~~(((rnds KK (w80 b) s i).e))))&&&(((rnds KK (w80 b) s i).g)))))))+wv (wget KK i)))) kj (congrArg (Value.int .u64) (w_add _ _))) ?_
  refine Qab (.int .u64 (wv (wget (w80 b) i))) 82 rfl kj kj ?_
  refine Qab (.int .u64 (wv ((((((((((rnds KK (w80 b) s i).h))+((((((rr ((rnds KK (w80 b) s i).e) 14))^^^((rr ((rnds KK (w80 b) s i).e) 18))))^^^((rr ((rnds KK (w80 b) s i).e) 41))))))+(((((((rnds KK (w80 b) s i).e))&&&(((rnds KK (w80 b) s i).f))))^^^((((~~~(((rnds KK (w80 b) s i).e))))&&&(((rnds KK (w80 b) s i).g))))))))+((wget KK i))))+((wget (w80 b) i))))) 83 rfl kj (Qan (u:=.int .u64 (IntKind.u64.wrap (wv ((((((((rnds KK (w80 b) s i).h))+((((((rr ((rnds KK (w80 b) s i).e) 14))^^^((rr ((rnds KK (w80 b) s i).e) 18))))^^^((rr ((rnds KK (w80 b) s i).e) 41))))))+(((((((rnds KK (w80 b) s i).e))&&&(((rnds KK (w80 b) s i).f))))^^^((((~~~(((rnds KK (w80 b) s i).e))))&&&(((rnds KK (w80 b) s i).g))))))))+((wget KK i)))+wv (wget (w80 b) i)))) kj (congrArg (Value.int .u64) (w_add _ _))) ?_
  refine Qab (.int .u64 (wv ((((((((((rnds KK (w80 b) s i).h))+((((((rr ((rnds KK (w80 b) s i).e) 14))^^^((rr ((rnds KK (w80 b) s i).e) 18))))^^^((rr ((rnds KK (w80 b) s i).e) 41))))))+(((((((rnds KK (w80 b) s i).e))&&&(((rnds KK (w80 b) s i).f))))^^^((((~~~(((rnds KK (w80 b) s i).e))))&&&(((rnds KK (w80 b) s i).g))))))))+((wget KK i))))+((wget (w80 b) i))))) 16 rfl kj kj ?_
  refine Qaf ?_
  refine hK17 _ _ ?_
  refine wp_seq_k fun K18 hK18=>?_
  refine Qac ?_
  refine Qab (.int .u64 (wv (((((rr ((rnds KK (w80 b) s i).a) 28))^^^((rr ((rnds KK (w80 b) s i).a) 34))))^^^((rr ((rnds KK (w80 b) s i).a) 39))))) 84 rfl kj kj ?_
  refine Qab (.int .u64 (wv ((rnds KK (w80 b) s i).a))) 85 rfl kj kj ?_
  refine Qab (.int .u64 (wv ((rnds KK (w80 b) s i).b))) 86 rfl kj kj ?_
  refine Qab (.int .u64 (wv ((((rnds KK (w80 b) s i).a))&&&(((rnds KK (w80 b) s i).b))))) 87 rfl kj (Qan (u:=.int .u64 (bits .and .u64 (wv ((rnds KK (w80 b) s i).a)) (wv ((rnds KK (w80 b) s i).b)))) kj (congrArg (Value.int .u64) (w_and _ _))) ?_
  refine Qab (.int .u64 (wv ((rnds KK (w80 b) s i).a))) 88 rfl kj kj ?_
  refine Qab (.int .u64 (wv ((rnds KK (w80 b) s i).c))) 89 rfl kj kj ?_
  refine Qab (.int .u64 (wv ((((rnds KK (w80 b) s i).a))&&&(((rnds KK (w80 b) s i).c))))) 90 rfl kj (Qan (u:=.int .u64 (bits .and .u64 (wv ((rnds KK (w80 b) s i).a)) (wv ((rnds KK (w80 b) s i).c)))) kj (congrArg (Value.int .u64) (w_and _ _))) ?_
  refine Qab (.int .u64 (wv ((((((rnds KK (w80 b) s i).a))&&&(((rnds KK (w80 b) s i).b))))^^^(((((rnds KK (w80 b) s i).a))&&&(((rnds KK (w80 b) s i).c))))))) 91 rfl kj (Qan (u:=.int .u64 (bits .xor .u64 (wv ((((rnds KK (w80 b) s i).a))&&&(((rnds KK (w80 b) s i).b)))) (wv ((((rnds KK (w80 b) s i).a))&&&(((rnds KK (w80 b) s i).c)))))) kj (congrArg (Value.int .u64) (w_xor _ _))) ?_
  refine Qab (.int .u64 (wv ((rnds KK (w80 b) s i).b))) 92 rfl kj kj ?_
  refine Qab (.int .u64 (wv ((rnds KK (w80 b) s i).c))) 93 rfl kj kj ?_
  refine Qab (.int .u64 (wv ((((rnds KK (w80 b) s i).b))&&&(((rnds KK (w80 b) s i).c))))) 94 rfl kj (Qan (u:=.int .u64 (bits .and .u64 (wv ((rnds KK (w80 b) s i).b)) (wv ((rnds KK (w80 b) s i).c)))) kj (congrArg (Value.int .u64) (w_and _ _))) ?_
  refine Qab (.int .u64 (wv ((((((((rnds KK (w80 b) s i).a))&&&(((rnds KK (w80 b) s i).b))))^^^(((((rnds KK (w80 b) s i).a))&&&(((rnds KK (w80 b) s i).c))))))^^^(((((rnds KK (w80 b) s i).b))&&&(((rnds KK (w80 b) s i).c))))))) 95 rfl kj (Qan (u:=.int .u64 (bits .xor .u64 (wv ((((((rnds KK (w80 b) s i).a))&&&(((rnds KK (w80 b) s i).b))))^^^(((((rnds KK (w80 b) s i).a))&&&(((rnds KK (w80 b) s i).c)))))) (wv ((((rnds KK (w80 b) s i).b))&&&(((rnds KK (w80 b) s i).c)))))) kj (congrArg (Value.int .u64) (w_xor _ _))) ?_
  refine Qab (.int .u64 (wv (((((((rr ((rnds KK (w80 b) s i).a) 28))^^^((rr ((rnds KK (w80 b) s i).a) 34))))^^^((rr ((rnds KK (w80 b) s i).a) 39))))+(((((((((rnds KK (w80 b) s i).a))&&&(((rnds KK (w80 b) s i).b))))^^^(((((rnds KK (w80 b) s i).a))&&&(((rnds KK (w80 b) s i).c))))))^^^(((((rnds KK (w80 b) s i).b))&&&(((rnds KK (w80 b) s i).c))))))))) 96 rfl kj (Qan (u:=.int .u64 (IntKind.u64.wrap (wv (((((rr ((rnds KK (w80 b) s i).a) 28))^^^((rr ((rnds KK (w80 b) s i).a) 34))))^^^((rr ((rnds KK (w80 b) s i).a) 39)))+wv ((((((((rnds KK (w80 b) s i).a))&&&(((rnds KK (w80 b) s i).b))))^^^(((((rnds KK (w80 b) s i).a))&&&(((rnds KK (w80 b) s i).c))))))^^^(((((rnds KK (w80 b) s i).b))&&&(((rnds KK (w80 b) s i).c)))))))) kj (congrArg (Value.int .u64) (w_add _ _))) ?_
  refine Qab (.int .u64 (wv (((((((rr ((rnds KK (w80 b) s i).a) 28))^^^((rr ((rnds KK (w80 b) s i).a) 34))))^^^((rr ((rnds KK (w80 b) s i).a) 39))))+(((((((((rnds KK (w80 b) s i).a))&&&(((rnds KK (w80 b) s i).b))))^^^(((((rnds KK (w80 b) s i).a))&&&(((rnds KK (w80 b) s i).c))))))^^^(((((rnds KK (w80 b) s i).b))&&&(((rnds KK (w80 b) s i).c))))))))) 17 rfl kj kj ?_
  refine Qaf ?_
  refine hK18 _ _ ?_
  refine Qac ?_
  refine Qab (.int .u64 (wv ((rnds KK (w80 b) s i).g))) 97 rfl kj kj ?_
  refine Qab (.int .u64 (wv ((rnds KK (w80 b) s i).f))) 98 rfl kj kj ?_
  refine Qab (.int .u64 (wv ((rnds KK (w80 b) s i).e))) 99 rfl kj kj ?_
  refine Qab (.int .u64 (wv ((rnds KK (w80 b) s i).d))) 100 rfl kj kj ?_
  refine Qab (.int .u64 (wv ((((((((((rnds KK (w80 b) s i).h))+((((((rr ((rnds KK (w80 b) s i).e) 14))^^^((rr ((rnds KK (w80 b) s i).e) 18))))^^^((rr ((rnds KK (w80 b) s i).e) 41))))))+(((((((rnds KK (w80 b) s i).e))&&&(((rnds KK (w80 b) s i).f))))^^^((((~~~(((rnds KK (w80 b) s i).e))))&&&(((rnds KK (w80 b) s i).g))))))))+((wget KK i))))+((wget (w80 b) i))))) 101 rfl kj kj ?_
  refine Qab (.int .u64 (wv ((((rnds KK (w80 b) s i).d))+(((((((((((rnds KK (w80 b) s i).h))+((((((rr ((rnds KK (w80 b) s i).e) 14))^^^((rr ((rnds KK (w80 b) s i).e) 18))))^^^((rr ((rnds KK (w80 b) s i).e) 41))))))+(((((((rnds KK (w80 b) s i).e))&&&(((rnds KK (w80 b) s i).f))))^^^((((~~~(((rnds KK (w80 b) s i).e))))&&&(((rnds KK (w80 b) s i).g))))))))+((wget KK i))))+((wget (w80 b) i))))))) 102 rfl kj (Qan (u:=.int .u64 (IntKind.u64.wrap (wv ((rnds KK (w80 b) s i).d)+wv ((((((((((rnds KK (w80 b) s i).h))+((((((rr ((rnds KK (w80 b) s i).e) 14))^^^((rr ((rnds KK (w80 b) s i).e) 18))))^^^((rr ((rnds KK (w80 b) s i).e) 41))))))+(((((((rnds KK (w80 b) s i).e))&&&(((rnds KK (w80 b) s i).f))))^^^((((~~~(((rnds KK (w80 b) s i).e))))&&&(((rnds KK (w80 b) s i).g))))))))+((wget KK i))))+((wget (w80 b) i)))))) kj (congrArg (Value.int .u64) (w_add _ _))) ?_
  refine Qab (.int .u64 (wv ((rnds KK (w80 b) s i).c))) 103 rfl kj kj ?_
  refine Qab (.int .u64 (wv ((rnds KK (w80 b) s i).b))) 104 rfl kj kj ?_
  refine Qab (.int .u64 (wv ((rnds KK (w80 b) s i).a))) 105 rfl kj kj ?_
  refine Qab (.int .u64 (wv ((((((((((rnds KK (w80 b) s i).h))+((((((rr ((rnds KK (w80 b) s i).e) 14))^^^((rr ((rnds KK (w80 b) s i).e) 18))))^^^((rr ((rnds KK (w80 b) s i).e) 41))))))+(((((((rnds KK (w80 b) s i).e))&&&(((rnds KK (w80 b) s i).f))))^^^((((~~~(((rnds KK (w80 b) s i).e))))&&&(((rnds KK (w80 b) s i).g))))))))+((wget KK i))))+((wget (w80 b) i))))) 106 rfl kj kj ?_
  refine Qab (.int .u64 (wv (((((((rr ((rnds KK (w80 b) s i).a) 28))^^^((rr ((rnds KK (w80 b) s i).a) 34))))^^^((rr ((rnds KK (w80 b) s i).a) 39))))+(((((((((rnds KK (w80 b) s i).a))&&&(((rnds KK (w80 b) s i).b))))^^^(((((rnds KK (w80 b) s i).a))&&&(((rnds KK (w80 b) s i).c))))))^^^(((((rnds KK (w80 b) s i).b))&&&(((rnds KK (w80 b) s i).c))))))))) 107 rfl kj kj ?_
  refine Qab (.int .u64 (wv ((((((((((((rnds KK (w80 b) s i).h))+((((((rr ((rnds KK (w80 b) s i).e) 14))^^^((rr ((rnds KK (w80 b) s i).e) 18))))^^^((rr ((rnds KK (w80 b) s i).e) 41))))))+(((((((rnds KK (w80 b) s i).e))&&&(((rnds KK (w80 b) s i).f))))^^^((((~~~(((rnds KK (w80 b) s i).e))))&&&(((rnds KK (w80 b) s i).g))))))))+((wget KK i))))+((wget (w80 b) i))))+((((((((rr ((rnds KK (w80 b) s i).a) 28))^^^((rr ((rnds KK (w80 b) s i).a) 34))))^^^((rr ((rnds KK (w80 b) s i).a) 39))))+(((((((((rnds KK (w80 b) s i).a))&&&(((rnds KK (w80 b) s i).b))))^^^(((((rnds KK (w80 b) s i).a))&&&(((rnds KK (w80 b) s i).c))))))^^^(((((rnds KK (w80 b) s i).b))&&&(((rnds KK (w80 b) s i).c))))))))))) 108 rfl kj (Qan (u:=.int .u64 (IntKind.u64.wrap (wv ((((((((((rnds KK (w80 b) s i).h))+((((((rr ((rnds KK (w80 b) s i).e) 14))^^^((rr ((rnds KK (w80 b) s i).e) 18))))^^^((rr ((rnds KK (w80 b) s i).e) 41))))))+(((((((rnds KK (w80 b) s i).e))&&&(((rnds KK (w80 b) s i).f))))^^^((((~~~(((rnds KK (w80 b) s i).e))))&&&(((rnds KK (w80 b) s i).g))))))))+((wget KK i))))+((wget (w80 b) i)))+wv (((((((rr ((rnds KK (w80 b) s i).a) 28))^^^((rr ((rnds KK (w80 b) s i).a) 34))))^^^((rr ((rnds KK (w80 b) s i).a) 39))))+(((((((((rnds KK (w80 b) s i).a))&&&(((rnds KK (w80 b) s i).b))))^^^(((((rnds KK (w80 b) s i).a))&&&(((rnds KK (w80 b) s i).c))))))^^^(((((rnds KK (w80 b) s i).b))&&&(((rnds KK (w80 b) s i).c)))))))))) kj (congrArg (Value.int .u64) (w_add _ _))) ?_
  refine Qab (.int .u64 (wv ((rnds KK (w80 b) s i).g))) 11 rfl kj kj ?_
  refine Qab (.int .u64 (wv ((rnds KK (w80 b) s i).f))) 10 rfl kj kj ?_
  refine Qab (.int .u64 (wv ((rnds KK (w80 b) s i).e))) 9 rfl kj kj ?_
  refine Qab (.int .u64 (wv ((((rnds KK (w80 b) s i).d))+(((((((((((rnds KK (w80 b) s i).h))+((((((rr ((rnds KK (w80 b) s i).e) 14))^^^((rr ((rnds KK (w80 b) s i).e) 18))))^^^((rr ((rnds KK (w80 b) s i).e) 41))))))+(((((((rnds KK (w80 b) s i).e))&&&(((rnds KK (w80 b) s i).f))))^^^((((~~~(((rnds KK (w80 b) s i).e))))&&&(((rnds KK (w80 b) s i).g))))))))+((wget KK i))))+((wget (w80 b) i))))))) 8 rfl kj kj ?_
  refine Qab (.int .u64 (wv ((rnds KK (w80 b) s i).c))) 7 rfl kj kj ?_
  refine Qab (.int .u64 (wv ((rnds KK (w80 b) s i).b))) 6 rfl kj kj ?_
  refine Qab (.int .u64 (wv ((rnds KK (w80 b) s i).a))) 5 rfl kj kj ?_
  refine Qab (.int .u64 (wv ((((((((((((rnds KK (w80 b) s i).h))+((((((rr ((rnds KK (w80 b) s i).e) 14))^^^((rr ((rnds KK (w80 b) s i).e) 18))))^^^((rr ((rnds KK (w80 b) s i).e) 41))))))+(((((((rnds KK (w80 b) s i).e))&&&(((rnds KK (w80 b) s i).f))))^^^((((~~~(((rnds KK (w80 b) s i).e))))&&&(((rnds KK (w80 b) s i).g))))))))+((wget KK i))))+((wget (w80 b) i))))+((((((((rr ((rnds KK (w80 b) s i).a) 28))^^^((rr ((rnds KK (w80 b) s i).a) 34))))^^^((rr ((rnds KK (w80 b) s i).a) 39))))+(((((((((rnds KK (w80 b) s i).a))&&&(((rnds KK (w80 b) s i).b))))^^^(((((rnds KK (w80 b) s i).a))&&&(((rnds KK (w80 b) s i).c))))))^^^(((((rnds KK (w80 b) s i).b))&&&(((rnds KK (w80 b) s i).c))))))))))) 4 rfl kj kj ?_
  refine Qaf ?_
  refine hK13 _ _ ?_
  refine Qac ?_
  refine Qab (.int .i64 ((i+1:Nat):Int)) 109 rfl kj (Qan (u:=.int .i64 (IntKind.i64.wrap (((i:Nat):Int)+1))) kj (congrArg (Value.int .i64) (i64n _ _ (by omega) (by omega)))) ?_
  refine Qab (.int .i64 ((i+1:Nat):Int)) 46 rfl kj kj ?_
  refine Qaf ?_
  have y6_8:Ext W6 W8:=(Rely.Ext.trans e7 e8)
  have y6_9:Ext W6 W9:=(Rely.Ext.trans y6_8 e9)
  have y6_10:Ext W6 W10:=(Rely.Ext.trans y6_9 e10)
  have y6_11:Ext W6 W11:=(Rely.Ext.trans y6_10 e11)
  have y6_12:Ext W6 W12:=(Rely.Ext.trans y6_11 e12)
  have y6_13:Ext W6 W13:=(Rely.Ext.trans y6_12 e13)
  repeat (first | with_reducible refine goX1 ?_ | with_reducible refine goX2 ?_ | with_reducible refine goX3 ?_)
  exact QaA (i+1) ⟨rfl,rfl,rfl,rfl,rfl,rfl,rfl,rfl,rfl,rfl,rfl,trivial⟩ ⟨(by omega),y6_13,x13⟩ (by omega)
 ·skip
  have heq47:i=80:=by have:=of_decide_eq_false c12; omega
  refine wp_exit ?_
  refine hK8 _ _ ?_
  refine wp_seq_k fun K19 hK19=>?_
  refine Qac ?_
  refine Qab (.int .u64 (wv ((rnds KK (w80 b) s i).a))) 110 rfl kj kj ?_
  refine Qab (.int .u64 (wv ((rnds KK (w80 b) s i).b))) 111 rfl kj kj ?_
  refine Qab (.int .u64 (wv ((rnds KK (w80 b) s i).c))) 112 rfl kj kj ?_
  refine Qab (.int .u64 (wv ((rnds KK (w80 b) s i).d))) 113 rfl kj kj ?_
  refine Qab (.int .u64 (wv ((rnds KK (w80 b) s i).e))) 114 rfl kj kj ?_
  refine Qab (.int .u64 (wv ((rnds KK (w80 b) s i).f))) 115 rfl kj kj ?_
  refine Qab (.int .u64 (wv ((rnds KK (w80 b) s i).g))) 116 rfl kj kj ?_
  refine Qab (.int .u64 (wv ((rnds KK (w80 b) s i).h))) 117 rfl kj kj ?_
  refine Qab (.agg (ints .u64 ([wv (rnds KK (w80 b) s i).a,wv (rnds KK (w80 b) s i).b,wv (rnds KK (w80 b) s i).c,wv (rnds KK (w80 b) s i).d,wv (rnds KK (w80 b) s i).e,wv (rnds KK (w80 b) s i).f,wv (rnds KK (w80 b) s i).g,wv (rnds KK (w80 b) s i).h]))) 118 rfl kj kj ?_
  refine Qab (.int .i64 0) 119 rfl kj kj ?_
  refine Qaf ?_
  refine hK19 _ _ ?_
  refine wp_block ?_
  obtain ⟨r,hr9⟩:∃ z,z=rnds KK (w80 b) s i:=⟨_,rfl⟩
  have r2_4:=(Qaa r2_3 e4)
  have r2_5:=(Puts.row p5 r2_4 (Qad r2_3 l6))
  have r2_6:=(Qaa r2_5 e6)
  have r2_7:=(Qaa r2_6 e7)
  have rg_:V1.heap[g]? = some (.cells (cat [ints .u64 (s.l.map wv),ints .u8 (b),#[.int .i64 m]]) 128):=r2_7
  refine QaI (fun (s2:Nat)=>[(0,.pointer (some ⟨g,0,none⟩)),(118,.agg (ints .u64 ([wv (rnds KK (w80 b) s i).a,wv (rnds KK (w80 b) s i).b,wv (rnds KK (w80 b) s i).c,wv (rnds KK (w80 b) s i).d,wv (rnds KK (w80 b) s i).e,wv (rnds KK (w80 b) s i).f,wv (rnds KK (w80 b) s i).g,wv (rnds KK (w80 b) s i).h]))),(119,.int .i64 ((s2:Nat):Int))]) (fun (s2:Nat) W=>(s2≤8)∧(W.heap[g]? = some (.cells (cat [ints .u64 ((mixW s.l r.l s2).map wv),ints .u8 (b),#[.int .i64 m]]) 128))∧(Qa7 [g] V1 W)∧(ExtB g w W)) (fun (s2:Nat)=>8-s2) 0 ⟨rfl,rfl,rfl,trivial⟩ ⟨(Nat.zero_le _),rg_,(Qa7.refl [g] V1),xx1⟩ fun s2 X2 V2 hI2=>?_
  obtain ⟨p,hs2⟩:∃ z,z=s2:=⟨_,rfl⟩
  subst hs2
  obtain ⟨hp,q2_2,kk2,xx2⟩:=hI2
  replace hp:p≤8:=hp
  replace q2_2:V2.heap[g]? = some (.cells (cat [ints .u64 ((mixW s.l r.l p).map wv),ints .u8 (b),#[.int .i64 m]]) 128):=q2_2
  replace kk2:Qa7 [g] V1 V2:=kk2
  replace xx2:ExtB g w V2:=xx2
  have q8:=kk2
  refine wp_seq_k fun K20 hK20=>?_
  refine Qac ?_
  refine Qab (.bool (decide (((p:Nat):Int)<8))) 120 rfl kj kj ?_
  refine Qaf ?_
  refine hK20 _ _ ?_
  refine wp_seq_k fun K21 hK21=>?_
  refine Qa5 (t:=decide (((p:Nat):Int)<8)) kj (fun c22=>?_) (fun c22=>?_)
  ·skip
   have hlt120:p<8:=by have:=of_decide_eq_true c22; omega
   refine wp_skip ?_
   refine hK21 _ _ ?_
   refine wp_seq_k fun K23 hK23=>?_
   refine wp_block ?_
   refine wp_seq_k fun K24 hK24=>?_
   refine Qac ?_
   refine Qab (.int .i64 ((p:Nat):Int)) 121 rfl kj kj ?_
   refine Qab (.int .u64 (wv (wget r.l p))) 122 rfl kj (run_index_il 85 _ _ .i64 .u64 ([wv (rnds KK (w80 b) s i).a,wv (rnds KK (w80 b) s i).b,wv (rnds KK (w80 b) s i).c,wv (rnds KK (w80 b) s i).d,wv (rnds KK (w80 b) s i).e,wv (rnds KK (w80 b) s i).f,wv (rnds KK (w80 b) s i).g,wv (rnds KK (w80 b) s i).h]) p 8 46 (wv (wget r.l p)) rfl kj kj kj kj kj rfl (by omega) (by rw [hr9]; exact nth_map (rnds KK (w80 b) s i).l p)) ?_
   refine Qab (.int .i64 ((p:Nat):Int)) 18 rfl kj kj ?_
   refine Qab (.int .u64 (wv (wget r.l p))) 19 rfl kj kj ?_
   refine Qaf ?_
   refine hK24 _ _ ?_
   refine QaK 11 [⟨none,[(0,none)]⟩,⟨none,[(18,none)]⟩,⟨none,[(123,some 0)]⟩,⟨none,[(125,some 2)]⟩,⟨none,[(126,some 3),(124,some 1)]⟩,⟨none,[(127,some 4)]⟩,⟨none,[(19,none)]⟩,⟨none,[(128,some 5),(129,some 6)]⟩,⟨none,[(123,some 0)]⟩,⟨none,[(131,some 8)]⟩,⟨none,[(132,some 9),(124,some 1)]⟩] kj kj fun F hF=>?_
   refine Qav (.pointer (some ⟨g,0,none⟩)) kj kj (fun W=>kj) ?_
   refine Qav (.int .i64 ((p:Nat):Int)) kj kj (fun W=>kj) ?_
   refine Qav (.pointer (some ⟨g,0,none⟩)) kj kj (fun W=>kj) ?_
   refine Qav (.pointer (some ⟨g,0,none⟩)) kj kj (fun W=>kj) ?_
   refine Qav (.pointer (some ⟨g,0+p*1,none⟩)) kj kj (fun W=>(Qdr 85 _ _ .i64 p g 0 8 46 1 rfl kj kj kj kj (show p<8 by omega))) ?_
   refine Qaq (.int .u64 (wv (wget s.l p))) kj kj (fun W hR=>(Qam 46 _ g (0+p*1) 128 _ (.int .u64 (wv (wget s.l p))) _ (Qaa (Qaa q2_2 (Qai _)) hR) rfl kj ((QmT [] [ints .u8 (b),#[.int .i64 m]] ((mixW s.l r.l p).map wv) 0 p (0+p*1) kj (by omega) (Nat.lt_of_lt_of_eq (show p<8 by omega) (mix_len s r hp).symm)).trans (congrArg (fun z=>some (Value.int .u64 z)) (QkW s r hlt120))) kj)) ?_
   refine Qav (.int .u64 (wv (wget r.l p))) kj kj (fun W=>kj) ?_
   refine Qav (.int .u64 (wv (((wget s.l p))+((wget r.l p))))) kj kj (fun W=>(Qan (u:=.int .u64 (IntKind.u64.wrap (wv (wget s.l p)+wv (wget r.l p)))) kj (congrArg (Value.int .u64) (w_add _ _)))) ?_
   refine Qav (.pointer (some ⟨g,0,none⟩)) kj kj (fun W=>kj) ?_
   refine Qav (.pointer (some ⟨g,0,none⟩)) kj kj (fun W=>kj) ?_
   refine Qav (.pointer (some ⟨g,0+p*1,none⟩)) kj kj (fun W=>(Qdr 85 _ _ .i64 p g 0 8 46 1 rfl kj kj kj kj (show p<8 by omega))) ?_
   refine Qa9 (hF _ kj fun W9 e9=>?_)
   simp only [ups,up,Kn.val,List.take_succ_cons,List.take_zero,List.drop_succ_cons,List.drop_zero,List.nil_append,List.cons_append]
   clear hF
   have x9:ExtB g w W9:=ExtB.ext xx2 e9
   have r2_9:=(Qaa q2_2 e9)
   refine Qak g _ (cat [ints .u64 (((mixW s.l r.l p).map wv).set p (wv (((wget s.l p))+((wget r.l p))))),ints .u8 (b),#[.int .i64 m]]) 128 r2_9 rfl kj (QjD 46 _ _ g (0+p*1) 128 [] [ints .u8 (b),#[.int .i64 m]] ((mixW s.l r.l p).map wv) 0 p _ r2_9 rfl kj kj kj kj (by omega) (Nat.lt_of_lt_of_eq (show p<8 by omega) (mix_len s r hp).symm)) fun W10 p10 r2_10=>?_
   have x10:ExtB g w W10:=ExtB.puts x9 p10
   refine Qaf ?_
   refine hK23 _ _ ?_
   refine Qac ?_
   refine Qab (.int .i64 ((p+1:Nat):Int)) 134 rfl kj (Qan (u:=.int .i64 (IntKind.i64.wrap (((p:Nat):Int)+1))) kj (congrArg (Value.int .i64) (i64n _ _ (by omega) (by omega)))) ?_
   refine Qab (.int .i64 ((p+1:Nat):Int)) 119 rfl kj kj ?_
   refine Qaf ?_
   have rh_:W10.heap[g]? = some (.cells (cat [ints .u64 ((mixW s.l r.l (p+1)).map wv),ints .u8 (b),#[.int .i64 m]]) 128):=by have h9:=r2_10; rw [mix_set s r hlt120] at h9; exact h9
   repeat (first | with_reducible refine goX1 ?_ | with_reducible refine goX2 ?_ | with_reducible refine goX3 ?_)
   exact QaA (p+1) ⟨rfl,rfl,rfl,trivial⟩ ⟨(by omega),rh_,(Qa7.puts (Qa7.step q8 e9) p10 (.inl (by simp))),x10⟩ (by show 8-(p+1)<8-p; omega)
  ·skip
   have heq120:p=8:=by have:=of_decide_eq_false c22; omega
   refine wp_exit ?_
   repeat (first | with_reducible refine goX1 ?_ | with_reducible refine goX2 ?_ | with_reducible refine goX3 ?_)
   exact (show bodyPost _ _ _ .normal _ _ from end0 rfl ⟨rfl,xx2,by have h9:=q2_2; rw [heq120,hr9,heq47] at h9; exact h9⟩)
end Go.Proofs.YtdoadngmgmdlbaaDoor.Sha5
end
section
namespace Go.Proofs.YtdoadngmgmdlbaaDoor.Sha5
open Go Go.RowKit
open Rely Auto Own
theorem Qek (s : S8) (t u:List Int):∀ n:Nat,128*n≤t.length→absorb s (t++u) n=absorb s t n
  | 0,_=>rfl
  | n+1,h=>by
    show blk (absorb s (t++u) n) _=blk (absorb s t n) _
    rw [Qek s t u n (by omega)]
    congr 1
    rw [List.drop_append_of_le_length (by omega),List.take_append_of_le_length (by rw [List.length_drop]; omega)]
def HasD (g : Nat) (t:List Int) (W:World):Prop:=∃ b:List Int,b.length=128∧Qal b∧b.take (t.length%128)=t.drop (128*(t.length/128))∧t.length≤1000000000 ∧
  W.heap[g]? = some (.cells (cat [ints .u64 ((absorb S0 t (t.length/128)).l.map wv),ints .u8 b,#[.int .i64 ((t.length:Nat):Int)]]) 128)
theorem HasD.row {g : Nat} {t:List Int} {W W':World} (h:HasD g t W) (e:W'.heap[g]? = W.heap[g]?):HasD g t W':=by
  obtain ⟨b,h1,h2,h3,h4,h5⟩:=h
  exact ⟨b,h1,h2,h3,h4,e.trans h5⟩
theorem HasD.lt {g : Nat} {t:List Int} {W:World} (h:HasD g t W):g<W.heap.size:=by
  obtain ⟨b,h1,h2,h3,h4,h5⟩:=h
  exact Qa3 h5
theorem HasD.ext {g : Nat} {t:List Int} {W W':World} (h:HasD g t W) (e:Ext W W'):HasD g t W':=h.row (e.block g h.lt)
theorem HasD.stable (g : Nat) (t:List Int):QbL Ext (fun _=>HasD g t):=fun _ _ _ hR h=>h.ext hR
def into (b z:List Int) (q n:Nat):List Int:=b.take q++z.take n++b.drop (q+n)
theorem Qjg {b z:List Int} {q n:Nat} (hb:b.length=128) (hz:n≤z.length) (hq:q+n≤128):(into b z q n).length=128:=by
  simp only [into,List.length_append,List.length_take,List.length_drop]; omega
theorem QeQ {b z:List Int} {q n:Nat} (hb:Qal b) (hz:Qal z):Qal (into b z q n):=fun x hx=>by
  rcases List.mem_append.1 hx with hx | hx
  · rcases List.mem_append.1 hx with hx | hx
    · exact hb x (List.mem_of_mem_take hx)
    · exact hz x (List.mem_of_mem_take hx)
  · exact hb x (List.mem_of_mem_drop hx)
theorem QhH {b z t:List Int} {n:Nat} (hb:b.length=128) (hz:n≤z.length) (hp:b.take (t.length%128)=t.drop (128*(t.length/128))):(into b z (t.length%128) n).take (t.length%128+n)=(t++z.take n).drop (128*(t.length/128)):=by
  have e1:(b.take (t.length%128)++z.take n).length=t.length%128+n:=by
    rw [List.length_append,List.length_take,List.length_take]; omega
  unfold into
  rw [←e1,List.take_left,hp,List.drop_append_of_le_length (by omega)]
theorem Qld {b z t:List Int} {n:Nat} (hb:b.length=128) (hz:n≤z.length) (hp:b.take (t.length%128)=t.drop (128*(t.length/128))) (hn:t.length%128+n<128) :
    (into b z (t.length%128) n).take ((t++z.take n).length%128)=(t++z.take n).drop (128*((t++z.take n).length/128)):=by
  have hl:(t++z.take n).length=t.length+n:=by rw [List.length_append,List.length_take]; omega
  rw [hl,show (t.length+n)%128=t.length%128+n by omega,show (t.length+n)/128=t.length/128 by omega]
  exact QhH hb hz hp
theorem Qlc {b z t:List Int} {n:Nat} (hb:b.length=128) (hz:n≤z.length) (hp:b.take (t.length%128)=t.drop (128*(t.length/128))) (hn:t.length%128+n=128) :
    blk (absorb S0 t (t.length/128)) (into b z (t.length%128) n)=absorb S0 (t++z.take n) ((t++z.take n).length/128):=by
  have hl:(t++z.take n).length=t.length+n:=by rw [List.length_append,List.length_take]; omega
  rw [hl,show (t.length+n)/128=t.length/128+1 by omega]
  show _=blk (absorb S0 (t++z.take n) (t.length/128)) _
  rw [Qek S0 t _ _ (by omega)]
  have h1:=QhH hb hz hp
  rw [hn,List.take_of_length_le (by rw [Qjg hb hz (by omega)]; omega)] at h1
  rw [h1,List.take_of_length_le (l:=(t++z.take n).drop (128*(t.length/128))) (by rw [List.length_drop,hl]; omega)]
theorem Qj7 {z t:List Int} {n:Nat} (hz:n≤z.length) (hn:t.length%128+n<128):absorb S0 (t++z.take n) ((t++z.take n).length/128)=absorb S0 t (t.length/128):=by
  have hl:(t++z.take n).length=t.length+n:=by rw [List.length_append,List.length_take]; omega
  rw [hl,show (t.length+n)/128=t.length/128 by omega,Qek S0 t _ _ (by omega)]
section
variable {ds : List Deferred} {ops : Array Oper} {Q : Exit → Act → World → Prop} {rest : List Oper} {o : Oper} {N : Nat} {L : Env} {W : World}
theorem cat3 (a b c:Array Value):(cat [a,b,c]).toList=a.toList++(b.toList++c.toList):=by
  show (a++(b++c)).toList=_
  simp
theorem Qnh {st b z:List Int} {u:Value} {q n:Nat} (hst:st.length=8) (hb:b.length=128) (hz:n≤z.length) (hq:q+n≤128) :
    ((cat [ints .u64 st,ints .u8 b,#[u]]).toList.take (8+q)++(z.take n).map (Value.int .u8)++(cat [ints .u64 st,ints .u8 b,#[u]]).toList.drop (8+q+n)).toArray=cat [ints .u64 st,ints .u8 (into b z q n),#[u]]:=by
  apply Array.ext'
  rw [cat3,cat3]
  have e1:(ints .u64 st).toList=st.map (Value.int .u64):=rfl
  have e2:∀ b,(ints .u8 b).toList=b.map (Value.int .u8):=fun _=>rfl
  rw [e1,e2,e2]
  have l1:(st.map (Value.int .u64)).length=8:=by simpa using hst
  have l2:(b.map (Value.int .u8)).length=128:=by simpa using hb
  show (st.map (Value.int .u64)++(b.map (Value.int .u8)++[u])).take (8+q)++(z.take n).map (Value.int .u8)++(st.map (Value.int .u64)++(b.map (Value.int .u8)++[u])).drop (8+q+n)=_
  rw [show 8+q+n=8+(q+n) by omega]
  rw [←l1,List.take_length_add_append,List.drop_length_add_append,List.take_append_of_le_length (by omega)]
  rw [List.drop_append_of_le_length (by omega)]
  unfold into
  simp only [List.map_append,List.map_take,List.map_drop,List.append_assoc]
theorem Qkt (x y:Operand) (tx ty:TypeId) (d:Nat) (ho:o.op=.call { callee:=.builtin .copy,args:=#[x,y],argTypes:=#[tx,ty] }) (hu:Tryd.prog.underlying tx=some (.slice 5)) (hd:o.dst=some d) (hgd:QcL ops o N L=some true)
    {g q n B:Nat} {st b z:List Int} {u v:Value} {T:TypeId} (hst:st.length=8) (hb:b.length=128) (hx:Rely.look (envN N L) x=.slice (some ⟨g,8+q,none⟩) (128-q) (128-q)) (hy:Rely.look (envN N L) y=v) (hr:RdK .u8 B z v W)
    (hg:W.heap[g]? = some (.cells (cat [ints .u64 st,ints .u8 b,#[u]]) T)) (hq:q<128) (hn:n=min z.length (128-q)) (h0:0<z.length)
    (k:∀ W':World,Puts W g W'→W'.heap[g]? = some (.cells (cat [ints .u64 st,ints .u8 (into b z q n),#[u]]) T)→WL Tryd.prog ops Q rest (Qa4 ds N ((d,.int .i64 ((n:Nat):Int))::L)) W'):WL Tryd.prog ops Q (o::rest) (Qa4 ds N L) W:=by
  obtain ⟨a,cap,rfl,y2,y3,y4,y5⟩:=hr
  obtain ⟨gz,oz,rfl,z2,z3,z4⟩:=y5.resolve_left (fun e=>by rw [e] at h0; simp at h0)
  have hlen:((z.take n).map (Value.int .u8)).length=n:=by simp; omega
  have hsz:(cat [ints .u64 st,ints .u8 b,#[u]]).size=137:=by
    rw [←Array.length_toList,cat3]; simp [ints]; omega
  have h:=run_copy_row (P:=Tryd.prog) W tx ty o.type 5 g (8+q) (128-q) (128-q) ⟨gz,oz,none⟩ z.length cap (cat [ints .u64 st,ints .u8 b,#[u]]) T ((z.take n).map (Value.int .u8)) hu kj hg (by rw [hlen]; exact hn)
    (Qm9 (k:=.u8) (ys:=z.take n) fun i hi=>by
      rw [List.length_take] at hi
      rw [z4 i (by omega)]
      simp [nth,show i<n by omega]) (by rw [hlen,hsz]; omega) (Qm2 .u8 _)
  rw [hlen,Qnh hst hb (by omega) (by omega)] at h
  refine QcD (.int .i64 ((n:Nat):Int)) _ d hd hgd ?_ (k _ (QcA _ _ _) (setRow_heap _ _ _ _ _ _ hg))
  unfold execOp
  simp only [ho,resolve,invoke,builtin,Sem.run_bind,Sem.run_pure,Result.andThen_ok,List.map_toArray,List.map_cons,List.map_nil,hx,hy,h,goInt]
theorem QjA {P : Program} {ρ:Operand→Value} {k:IntKind} {B:Nat} {ys:List Int} {v:Value} (t:TypeId) (x z:Operand) (l n:Nat) (e:TypeId) (ho:o.op=.slice t x (some z) none none) (hx:ρ x=v) (hv:RdK k B ys v W)
    (hu:P.underlying t=some (.slice e)) (hs:(P.info? e).map (·.size)=some 1) (kz:IntKind) (hz:ρ z=.int kz (l:Int)) (h1:l≤ys.length) (hn:ys.length-l=n) :
    ∃ a c,(execOp ρ o).run P W=.ok (.value (.slice a n c)) W∧RdK k B (ys.drop l) (.slice a n c) W∧(Value.slice a n c).ownBlock=v.ownBlock:=by
  obtain ⟨u,h2,h3,h5⟩:=Qg6 t x z l e ho hx hv hu hs kz hz h1
  obtain ⟨a,c,rfl,h4⟩:=id h3
  rw [List.length_drop,hn] at h2 h3 h5
  exact ⟨a,c,h2,h3,h5⟩
end
section
variable {ds : List Deferred} {ops : Array Oper} {Q : Exit → Act → World → Prop} {rest : List Oper} {o : Oper} {N : Nat} {L : Env} {W : World}
theorem Qg4 {P : Program} {k:IntKind} {B:Nat} {ys:List Int} {v:Value} (t:TypeId) (x z:Operand) (l n:Nat) (e:TypeId) (d:Nat) (ho:o.op=.slice t x (some z) none none) (hd:o.dst=some d) (hg:QcL ops o N L=some true) (hx:Rely.look (envN N L) x=v) (hv:RdK k B ys v W)
    (hu:P.underlying t=some (.slice e)) (hs:(P.info? e).map (·.size)=some 1) (kz:IntKind) (hz:Rely.look (envN N L) z=.int kz (l:Int)) (h1:l≤ys.length) (hn:ys.length-l=n)
    (kk:∀ a c,RdK k B (ys.drop l) (.slice a n c) W→(Value.slice a n c).ownBlock=v.ownBlock→WL P ops Q rest (Qa4 ds N ((d,.slice a n c)::L)) W):WL P ops Q (o::rest) (Qa4 ds N L) W:=by
  obtain ⟨a,c,h2,h3,h4⟩:=QjA (ρ:=Rely.look (envN N L)) t x z l n e ho hx hv hu hs kz hz h1 hn
  exact QcD _ _ d hd hg h2 (kk a c h3 h4)
end
theorem QjC {P : Program} {ρ:Operand→Value} {o:Oper} {w:World} (ty:TypeId) (x y:Operand) (g off:Nat) (t:TypeId) (pre post:List (Array Value)) (u v:Value) (hg:w.heap[g]? = some (.cells (cat (pre++([#[u]]++post))) t))
    (ho:o.op=.store ty x y) (hx:ρ x=.pointer (some ⟨g,off,none⟩)) (hy:ρ y=v) (hi:(P.info? ty).map (·.size)=some 1) (hp:(cat pre).size=off) (h1:v.oneCell'=true) (hcs:v.cells=#[v]) :
    (execOp ρ o).run P w=.ok .skip (w.setRow g (cat (pre++([#[v]]++post)))):=by
  subst hp
  have hs:Nat.blt (cat pre).size (cat (pre++([#[u]]++post))).size=true:=by
    have:(cat pre).size<(cat (pre++([#[u]]++post))).size:=by
      rw [QaX,QaX,qS,qS]
      have e1:(cat [#[u]]).size=1:=rfl
      omega
    simpa using this
  have e:(cat (pre++([#[u]]++post))).setIfInBounds (cat pre).size v=cat (pre++([#[v]]++post)):=by
    rw [QaX,QaX,QaX,QaX]
    have e1:∀ z,cat [#[z]]=#[z]:=fun z=>rfl
    rw [e1,e1,Array.setIfInBounds_append_right (qR _),Nat.sub_self,Array.setIfInBounds_append_left (by simp)]
    rfl
  rw [←e]
  exact Qea ty x y g _ t _ v hg ho hx hy hi hs h1 hcs
end Go.Proofs.YtdoadngmgmdlbaaDoor.Sha5
end
section
namespace Go.Proofs.YtdoadngmgmdlbaaDoor.Sha5
open Go Go.RowKit
open Rely Auto Own
theorem addC (g B:Nat) (t ys:List Int) (v:Value) (tc:TypeId) (w:World) (hc:w.heap[5]? = some (.cells (ints .u64 Qc6) tc)) (hcg:5≠g) (hB:ys=[]∨v.ownBlock≠some g) (hyb:Qal ys) (hlen:t.length+ys.length≤1000000000) (hd:HasD g t w) (hy:RdK .u8 B ys v w) :
  Calls Tryd.prog 79 #[.pointer (some ⟨g,0,none⟩),v] w (fun e W=>e=.returned (.tuple #[])∧ExtB g w W∧HasD g (t++ys) W):=by
 obtain ⟨a0,c0,rfl,-⟩:=id hy
 refine enter 38 [(0,.pointer (some ⟨g,0,none⟩)),(1,.slice a0 ys.length c0)] Tryd.func79 rfl rfl kj rfl ?_
 refine wp_block ?_
 have hyb2:∀ {k:Nat},Qal (ys.drop k):=fun x hx=>hyb x (List.mem_of_mem_drop hx)
 refine QaI (fun (s1:Nat×Option Addr×Nat)=>[(0,.pointer (some ⟨g,0,none⟩)),(1,.slice s1.2.1 (ys.length-s1.1) s1.2.2)]) (fun (s1:Nat×Option Addr×Nat) W=>(s1.1≤ys.length)∧(RdK .u8 B (ys.drop s1.1) (.slice s1.2.1 (ys.length-s1.1) s1.2.2) W)∧(s1.1<ys.length→(Value.slice s1.2.1 (ys.length-s1.1) s1.2.2).ownBlock≠some g)∧(HasD g (t++ys.take s1.1) W)∧(ExtB g w W)) (fun (s1:Nat×Option Addr×Nat)=>ys.length-s1.1) (0,a0,c0) ⟨rfl,rfl,trivial⟩ ⟨(Nat.zero_le _),hy,(fun h=>hB.resolve_left (fun e=>by rw [e] at h; exact absurd h (Nat.lt_irrefl _))),(by simpa using hd),(ExtB.refl g w)⟩ fun s1 X1 V1 hI1=>?_
 obtain ⟨k,a,c⟩:=s1
 obtain ⟨hk,hr,hnb,hD,xx1⟩:=hI1
 replace hk:k≤ys.length:=hk
 replace hr:RdK .u8 B (ys.drop k) (.slice a (ys.length-k) c) V1:=hr
 replace hnb:k<ys.length→(Value.slice a (ys.length-k) c).ownBlock≠some g:=hnb
 replace hD:HasD g (t++ys.take k) V1:=hD
 replace xx1:ExtB g w V1:=xx1
 refine wp_seq_k fun K3 hK3=>?_
 refine wp_seq_k fun K4 hK4=>?_
 refine Qac ?_
 refine Qab (.slice a (ys.length-k) c) 5 rfl kj kj ?_
 refine Qab (.int .i64 ((ys.length-k:Nat):Int)) 6 rfl kj kj ?_
 refine Qab (.bool (decide (((ys.length-k:Nat):Int)>0))) 7 rfl kj kj ?_
 refine Qaf ?_
 refine hK4 _ _ ?_
 refine Qa5 (t:=decide (((ys.length-k:Nat):Int)>0)) kj (fun c5=>?_) (fun c5=>?_)
 ·skip
  have hk2:k<ys.length:=by have:=of_decide_eq_true c5; omega
  obtain ⟨b,hbl,hbb,hbp,hmany,hrow⟩:=hD
  obtain ⟨t1,ht1⟩:∃ z,z=t++ys.take k:=⟨_,rfl⟩
  rw [←ht1] at hbp hmany hrow
  have hlt1:t1.length=t.length+k:=by rw [ht1,List.length_append,List.length_take]; omega
  obtain ⟨m,hm⟩:∃ z,z=t1.length:=⟨_,rfl⟩
  obtain ⟨s,hs⟩:∃ z,z=absorb S0 t1 (t1.length/128):=⟨_,rfl⟩
  obtain ⟨n,hn⟩:∃ z,z=min (ys.drop k).length (128-m%128):=⟨_,rfl⟩
  have hn0:0<n:=by rw [hn,List.length_drop]; omega
  have hn1:n≤ys.length-k:=by rw [hn,List.length_drop]; omega
  have hn2:n≤128-m%128:=by rw [hn]; omega
  rw [←hs,←hm] at hrow
  replace hrow:V1.heap[g]? = some (.cells (cat [ints .u64 ([wv s.a,wv s.b,wv s.c,wv s.d,wv s.e,wv s.f,wv s.g,wv s.h]),ints .u8 (b),#[.int .i64 ((m:Nat):Int)]]) 128):=hrow
  refine wp_skip ?_
  refine hK3 _ _ ?_
  refine wp_block ?_
  refine wp_seq_k fun K6 hK6=>?_
  refine Qbb 10 [⟨none,[(0,none)]⟩,⟨none,[(8,some 0)]⟩,⟨none,[(9,some 1)]⟩,⟨none,[(0,none)]⟩,⟨none,[(11,some 3)]⟩,⟨none,[(12,some 4)]⟩,⟨none,[(13,some 5)]⟩,⟨none,[(14,some 6)]⟩,⟨none,[(10,some 2),(15,some 7)]⟩,⟨none,[(1,none)]⟩] kj kj fun F hF=>?_
  refine QaL (Qaz _) (.pointer (some ⟨g,0,none⟩)) kj kj (fun W=>kj) ?_
  refine QaL (Qaz _) (.pointer (some ⟨g,0,none⟩)) kj kj (fun W=>kj) ?_
  refine QaL (Qaz _) (.pointer (some ⟨g,8,none⟩)) kj kj (fun W=>kj) ?_
  refine QaL (Qaz _) (.pointer (some ⟨g,0,none⟩)) kj kj (fun W=>kj) ?_
  refine QaL (Qaz _) (.pointer (some ⟨g,0,none⟩)) kj kj (fun W=>kj) ?_
  refine QaL (Qaz _) (.pointer (some ⟨g,136,none⟩)) kj kj (fun W=>kj) ?_
  refine QbJ (Qaz _) (.int .i64 ((m:Nat):Int)) kj kj (fun W hR=>(Qam 3 _ g 136 128 _ (.int .i64 ((m:Nat):Int)) _ (Qaa (Qaa hrow (Qai _)) hR) rfl kj (QaH [ints .u64 ([wv s.a,wv s.b,wv s.c,wv s.d,wv s.e,wv s.f,wv s.g,wv s.h]),ints .u8 (b)] [#[.int .i64 ((m:Nat):Int)]] [] 136 (by rw [Qcr,Qcr]; simp only [qS,cat,((Qae _ _).trans hbl)]; rfl) 0 _ rfl) kj)) ?_
  refine QaL (Qaz _) (.int .i64 ((m%128:Nat):Int)) kj kj (fun W=>(Qan (u:=.int .i64 (Int.tmod (((m:Nat):Int)) (128))) kj (congrArg (Value.int .i64) (QcU _ 128)))) ?_
  refine QaL (Qaz _) (.slice (some ⟨g,8+(m%128),none⟩) (128-(m%128)) (128-(m%128))) kj kj (fun W=>(Qb4 126 _ _ _ (m%128) 128 128 g 8 5 rfl kj kj kj ⟨.i64,kj⟩ rfl (by omega) (by omega) (by omega))) ?_
  refine QaL (Qaz _) (.slice a (ys.length-k) c) kj kj (fun W=>kj) ?_
  refine QdE (hF _ fun W2 e2=>?_)
  simp only [List.nil_append,List.cons_append,List.take_succ_cons,List.take_zero,List.drop_succ_cons,List.drop_zero,finE,up]
  clear hF
  have x2:ExtB g w W2:=ExtB.ext xx1 e2
  have r2_2:=(Qaa hrow e2)
  have f7_2:=(hr.ext e2)
  have hbl2:(into b (ys.drop k) (m%128) n).length=128:=Qjg hbl (by rw [List.length_drop]; omega) (by omega)
  refine Qkt (.tmp 16) (.tmp 17) 27 27 18 rfl kj rfl kj (q:=m%128) (n:=n) (b:=b) rfl hbl kj kj f7_2 r2_2 (by omega) hn (by rw [List.length_drop]; omega) fun W3 p3 r2_3=>?_
  have x3:ExtB g w W3:=ExtB.puts x2 p3
  refine Qab (.int .i64 ((n:Nat):Int)) 4 rfl kj kj ?_
  refine Qaf ?_
  refine hK6 _ _ ?_
  refine wp_seq_k fun K8 hK8=>?_
  refine Qac ?_
  refine Qab (.slice a (ys.length-k) c) 19 rfl kj kj ?_
  refine Qab (.int .i64 ((n:Nat):Int)) 20 rfl kj kj ?_
  have f9_3:=(f7_2.putsN p3 (hnb hk2))
  refine Qg4 27 (.tmp 19) (.tmp 20) n (ys.length-k-n) 5 21 rfl rfl kj kj f9_3 kj kj .i64 kj (by rw [List.length_drop]; omega) (by rw [List.length_drop]) fun a2 c2 hr2 hob=>?_
  have hnb2:(Value.slice a2 (ys.length-k-n) c2).ownBlock≠some g:=by rw [hob]; exact hnb hk2
  refine Qab (.slice a2 (ys.length-k-n) c2) 1 rfl kj kj ?_
  refine Qaf ?_
  refine hK8 _ _ ?_
  refine wp_seq_k fun K10 hK10=>?_
  refine Qac ?_
  refine Qab (.pointer (some ⟨g,0,none⟩)) 22 rfl kj kj ?_
  refine Qab (.pointer (some ⟨g,0,none⟩)) 23 rfl kj kj ?_
  refine Qab (.pointer (some ⟨g,136,none⟩)) 24 rfl kj kj ?_
  refine Qab (.int .i64 ((m:Nat):Int)) 25 rfl kj (Qam 3 _ g 136 128 _ (.int .i64 ((m:Nat):Int)) _ r2_3 rfl kj (QaH [ints .u64 ([wv s.a,wv s.b,wv s.c,wv s.d,wv s.e,wv s.f,wv s.g,wv s.h]),ints .u8 (into b (ys.drop k) (m%128) n)] [#[.int .i64 ((m:Nat):Int)]] [] 136 (by rw [Qcr,Qcr]; simp only [qS,cat,((Qae _ _).trans hbl2)]; rfl) 0 _ rfl) kj) ?_
  refine Qab (.int .i64 ((n:Nat):Int)) 26 rfl kj kj ?_
  refine Qab (.int .i64 ((m+n:Nat):Int)) 27 rfl kj (Qan (u:=.int .i64 (IntKind.i64.wrap (((m:Nat):Int)+((n:Nat):Int)))) kj (congrArg (Value.int .i64) (i64n _ _ (by omega) (by omega)))) ?_
  refine Qab (.pointer (some ⟨g,0,none⟩)) 28 rfl kj kj ?_
  refine Qab (.pointer (some ⟨g,136,none⟩)) 29 rfl kj kj ?_
  refine Qak g _ (cat [ints .u64 ([wv s.a,wv s.b,wv s.c,wv s.d,wv s.e,wv s.f,wv s.g,wv s.h]),ints .u8 (into b (ys.drop k) (m%128) n),#[.int .i64 ((m+n:Nat):Int)]]) 128 r2_3 rfl kj (QjC 3 _ _ g 136 128 [ints .u64 ([wv s.a,wv s.b,wv s.c,wv s.d,wv s.e,wv s.f,wv s.g,wv s.h]),ints .u8 (into b (ys.drop k) (m%128) n)] [] _ (.int .i64 ((m+n:Nat):Int)) r2_3 rfl kj kj kj (by rw [Qcr,Qcr]; simp only [qS,cat,((Qae _ _).trans hbl2)]; rfl) rfl rfl) fun W4 p4 r2_4=>?_
  have x4:ExtB g w W4:=ExtB.puts x3 p4
  refine Qaf ?_
  refine hK10 _ _ ?_
  refine wp_seq_k fun K11 hK11=>?_
  refine Qac ?_
  refine Qab (.pointer (some ⟨g,0,none⟩)) 30 rfl kj kj ?_
  refine Qab (.pointer (some ⟨g,0,none⟩)) 31 rfl kj kj ?_
  refine Qab (.pointer (some ⟨g,136,none⟩)) 32 rfl kj kj ?_
  refine Qab (.int .i64 ((m+n:Nat):Int)) 33 rfl kj (Qam 3 _ g 136 128 _ (.int .i64 ((m+n:Nat):Int)) _ r2_4 rfl kj (QaH [ints .u64 ([wv s.a,wv s.b,wv s.c,wv s.d,wv s.e,wv s.f,wv s.g,wv s.h]),ints .u8 (into b (ys.drop k) (m%128) n)] [#[.int .i64 ((m+n:Nat):Int)]] [] 136 (by rw [Qcr,Qcr]; simp only [qS,cat,((Qae _ _).trans hbl2)]; rfl) 0 _ rfl) kj) ?_
  refine Qab (.int .i64 (((m+n)%128:Nat):Int)) 34 rfl kj (Qan (u:=.int .i64 (Int.tmod (((m+n:Nat):Int)) (128))) kj (congrArg (Value.int .i64) (QcU _ 128))) ?_
  refine Qab (.bool (((((m+n)%128:Nat):Int)==0))) 35 rfl kj kj ?_
  refine Qaf ?_
  refine hK11 _ _ ?_
  refine Qa5 (t:=((((m+n)%128:Nat):Int)==0)) kj (fun c12=>?_) (fun c12=>?_)
  ·skip
   have hmod:(m+n)%128=0:=by have:=c12; have h2:=eq_of_beq this; omega
   refine Qac ?_
   refine Qab (.pointer (some ⟨g,0,none⟩)) 36 rfl kj kj ?_
   have r1_2:=(Qaa (ExtB.row xx1 hc hcg) e2)
   have r1_3:=(Puts.row p3 r1_2 hcg)
   have r1_4:=(Puts.row p4 r1_3 hcg)
   refine Qb6 (fun v W'=>v=.tuple #[]∧ExtB g W4 W'∧W'.heap[g]? = some (.cells (cat [ints .u64 ((blk s (into b (ys.drop k) (m%128) n)).l.map wv),ints .u8 (into b (ys.drop k) (m%128) n),#[.int .i64 ((m+n:Nat):Int)]]) 128)) 96 #[.pointer (some ⟨g,0,none⟩)] 37 rfl kj kj ((QqS g s _ hbl2 (QeQ hbb hyb2) _ tc _ r1_4 r2_4).mono fun e w' h=>⟨_,h.1,rfl,h.2⟩) fun v W5 h=>?_
   obtain ⟨rfl,q5,r2_5⟩:=h
   have x5:ExtB g w W5:=ExtB.trans x4 q5
   refine Qaf ?_
   have f13_4:=(hr2.putsN p4 hnb2)
   have f14_5:=(f13_4.extN q5 hnb2)
   have hr3:RdK .u8 B (ys.drop (k+n)) (.slice a2 (ys.length-(k+n)) c2) W5:=by
    have h:=f14_5
    rw [List.drop_drop,show ys.length-k-n=ys.length-(k+n) by omega] at h
    exact h
   have hlen3:(t1++(ys.drop k).take n).length=m+n:=by rw [List.length_append,List.length_take,List.length_drop]; omega
   have hnb3:(Value.slice a2 (ys.length-(k+n)) c2).ownBlock≠some g:=by rw [show ys.length-(k+n)=ys.length-k-n by omega]; exact hnb2
   have hT:t++ys.take (k+n)=t1++(ys.drop k).take n:=by rw [ht1,List.append_assoc,List.take_add]
   have hzn:n≤(ys.drop k).length:=by rw [List.length_drop]; omega
   have hb0:(into b (ys.drop k) (m%128) n).take ((t++ys.take (k+n)).length%128)=(t++ys.take (k+n)).drop (128*((t++ys.take (k+n)).length/128)):=by
    rw [hT,hlen3,hmod,List.take_zero,List.drop_of_length_le (by omega)]
   have hst:blk s (into b (ys.drop k) (m%128) n)=absorb S0 (t++ys.take (k+n)) ((t++ys.take (k+n)).length/128):=by rw [hT,hs,hm]; exact Qlc hbl hzn hbp (by omega)
   have hD2:HasD g (t++ys.take (k+n)) W5:=⟨_,hbl2,QeQ hbb hyb2,hb0,by rw [hT,hlen3]; omega,by rw [←hst,hT,hlen3]; exact r2_5⟩
   repeat (first | with_reducible refine goX1 ?_ | with_reducible refine goX2 ?_ | with_reducible refine goX3 ?_)
   exact QaA (k+n,a2,c2) ⟨rfl,(congrArg (fun z=>Value.slice a2 z c2) (by omega)),trivial⟩ ⟨(by omega),hr3,(fun _=>hnb3),hD2,x5⟩ (by show ys.length-(k+n)<ys.length-k; omega)
  ·skip
   have hmod:¬ (m+n)%128=0:=by have:=c12; intro h0; rw [h0] at this; exact absurd this (by decide)
   refine wp_skip ?_
   have f15_4:=(hr2.putsN p4 hnb2)
   have hr3:RdK .u8 B (ys.drop (k+n)) (.slice a2 (ys.length-(k+n)) c2) W4:=by
    have h:=f15_4
    rw [List.drop_drop,show ys.length-k-n=ys.length-(k+n) by omega] at h
    exact h
   have hlen3:(t1++(ys.drop k).take n).length=m+n:=by rw [List.length_append,List.length_take,List.length_drop]; omega
   have hnb3:(Value.slice a2 (ys.length-(k+n)) c2).ownBlock≠some g:=by rw [show ys.length-(k+n)=ys.length-k-n by omega]; exact hnb2
   have hT:t++ys.take (k+n)=t1++(ys.drop k).take n:=by rw [ht1,List.append_assoc,List.take_add]
   have hzn:n≤(ys.drop k).length:=by rw [List.length_drop]; omega
   have hb0:(into b (ys.drop k) (m%128) n).take ((t++ys.take (k+n)).length%128)=(t++ys.take (k+n)).drop (128*((t++ys.take (k+n)).length/128)):=by
    rw [hT,hm]; exact Qld hbl hzn hbp (by omega)
   have hst:s=absorb S0 (t++ys.take (k+n)) ((t++ys.take (k+n)).length/128):=by rw [hT,hs]; exact (Qj7 hzn (by omega)).symm
   have hD2:HasD g (t++ys.take (k+n)) W4:=⟨_,hbl2,QeQ hbb hyb2,hb0,by rw [hT,hlen3]; omega,by rw [←hst,hT,hlen3]; exact r2_4⟩
   repeat (first | with_reducible refine goX1 ?_ | with_reducible refine goX2 ?_ | with_reducible refine goX3 ?_)
   exact QaA (k+n,a2,c2) ⟨rfl,(congrArg (fun z=>Value.slice a2 z c2) (by omega)),trivial⟩ ⟨(by omega),hr3,(fun _=>hnb3),hD2,x4⟩ (by show ys.length-(k+n)<ys.length-k; omega)
 ·skip
  have hk2:k=ys.length:=by have:=of_decide_eq_false c5; omega
  refine wp_exit ?_
  repeat (first | with_reducible refine goX1 ?_ | with_reducible refine goX2 ?_ | with_reducible refine goX3 ?_)
  exact (show bodyPost _ _ _ .normal _ _ from end0 rfl ⟨rfl,xx1,by rw [hk2,List.take_length] at hD; exact hD⟩)
end Go.Proofs.YtdoadngmgmdlbaaDoor.Sha5
end
section
namespace Go.Proofs.YtdoadngmgmdlbaaDoor.Sha5
open Go Go.RowKit
open Rely Auto Own
theorem Qeh (n : Nat):Qal (List.replicate n 0):=fun x hx=>by
  have:=List.eq_of_mem_replicate hx
  subst this; decide
theorem Qpk (n : Nat):(128-(n+1+16)%128)%128=fillN n:=by unfold fillN; omega
theorem QpJ (n : Nat) (h:n≤1000000000):IntKind.u64.wrap ((n:Nat):Int)=((n:Nat):Int):=by
  have:∀ z:Int,IntKind.u64.wrap z=z%2^64:=fun _=>rfl
  rw [this]; omega
theorem QqQ (n : Nat) (h:n≤1000000000):IntKind.u64.wrap (((n:Nat):Int)*2^min (3:Int).toNat IntKind.u64.bits)=((8*n:Nat):Int):=by
  have:∀ z:Int,IntKind.u64.wrap z=z%2^64:=fun _=>rfl
  rw [this,show ((2:Int)^min (3:Int).toNat IntKind.u64.bits)=8 from rfl]; omega
theorem QpL (n : Nat) (h:n≤1000000000):((n:Nat):Int).fdiv (2^min (61:Int).toNat IntKind.u64.bits)=0:=by
  rw [Int.fdiv_eq_ediv_of_nonneg _ (by decide),show ((2:Int)^min (61:Int).toNat IntKind.u64.bits)=2305843009213693952 from rfl]; omega
theorem Qpx (m : Nat):IntKind.u8.wrap ((m:Nat):Int)=((m%256:Nat):Int):=by
  have:∀ z:Int,IntKind.u8.wrap z=z%2^8:=fun _=>rfl
  rw [this]; omega
theorem QqX (n i:Nat):((8*n/256^i:Nat):Int).fdiv (2^min (8:Int).toNat IntKind.u64.bits)=((8*n/256^(i+1):Nat):Int):=by
  rw [Int.fdiv_eq_ediv_of_nonneg _ (by decide),show ((2:Int)^min (8:Int).toNat IntKind.u64.bits)=256 from rfl,Nat.pow_succ,←Nat.div_div_eq_div_mul]; omega
theorem lowlt (n i:Nat) (h:n≤1000000000):8*n/256^(i+1)<18446744073709551616:=Nat.lt_of_le_of_lt (Nat.div_le_self _ _) (by omega)
theorem or0 (m : Nat) (h:m<18446744073709551616):bits .or .u64 ((m:Nat):Int) 0=((m:Nat):Int):=by
  have:=bits_or_u64_nat m 0 h (by decide)
  rw [Nat.or_zero] at this
  exact this
def be16 (n : Nat):List Int:=List.replicate 8 0++be8 n
def padL (n i:Nat):List Int:=128::(List.replicate (fillN n) 0++(List.replicate (16-i) 0++(be16 (8*n)).drop (16-i)))
theorem Qmr (n : Nat) {i:Nat} (h:i≤16):(padL n i).length=1+fillN n+16:=by
  have:(be16 (8*n)).length=16:=rfl
  simp [padL,this]; omega
theorem Qeq (n : Nat):(tailP n).length=1+fillN n+16:=by
  have:(be8 (8*n)).length=8:=rfl
  simp [tailP,this]; omega
theorem Qqi (n : Nat):(List.replicate (1+fillN n+16) (0:Int)).set 0 128=padL n 0:=by
  rw [show 1+fillN n+16=(fillN n+16)+1 by omega,List.replicate_succ,List.set_cons_zero,←List.replicate_append_replicate]
  rfl
theorem Qq7 (n i:Nat) (hn:n≤1000000000) (h:8≤i):8*n/256^i%256=0:=by
  have h1:256^8≤256^i:=Nat.pow_le_pow_right (by decide) h
  rw [Nat.div_eq_of_lt (qL (show 8*n<256^8 by omega) h1)]
theorem Qmq (n i:Nat) (hn:n≤1000000000) (h:i<16):(padL n i).set (1+fillN n+16-1-i) ((8*n/256^i%256:Nat):Int)=padL n (i+1):=by
  unfold padL
  rw [show 1+fillN n+16-1-i=(fillN n+(15-i))+1 by omega,List.set_cons_succ,List.set_append_right _ _ (by simp),qZ,Nat.add_sub_cancel_left]
  congr 2
  rcases Nat.lt_or_ge i 8 with q | q
  · match i,q with
    | 0,_=>rfl
    | 1,_=>rfl
    | 2,_=>rfl
    | 3,_=>rfl
    | 4,_=>rfl
    | 5,_=>rfl
    | 6,_=>rfl
    | 7,_=>rfl
  · rw [Qq7 n i hn q]
    rcases (show i=8∨i=9∨i=10∨i=11∨i=12∨i=13∨i=14∨i=15 by omega) with rfl | rfl | rfl | rfl | rfl | rfl | rfl | rfl <;> rfl
theorem Qmn (n : Nat) (hn:n≤1000000000) (w:World):Calls Tryd.prog 97 #[.int .i64 ((n:Nat):Int),.int .i64 128,.int .i64 16] w (QfT w (OwnN .u8 5 w.heap.size (tailP n))):=by
 have hF:fillN n<128:=by unfold fillN; omega
 refine enter 59 [(0,.int .i64 ((n:Nat):Int)),(1,.int .i64 128),(2,.int .i64 16)] Tryd.func97 rfl rfl kj rfl ?_
 refine wp_seq_k fun K1 hK1=>?_
 refine Qac ?_
 refine Qab (.slice none 0 0) 6 rfl kj kj ?_
 refine Qaf ?_
 refine hK1 _ _ ?_
 refine wp_seq_k fun K2 hK2=>?_
 refine Qac ?_
 refine Qab (.int .i64 128) 13 rfl kj kj ?_
 refine Qab (.int .i64 ((n:Nat):Int)) 14 rfl kj kj ?_
 refine Qab (.int .i64 ((n+1:Nat):Int)) 15 rfl kj (Qan (u:=.int .i64 (IntKind.i64.wrap (((n:Nat):Int)+1))) kj (congrArg (Value.int .i64) (i64n _ _ (by omega) (by omega)))) ?_
 refine Qab (.int .i64 16) 16 rfl kj kj ?_
 refine Qab (.int .i64 (((n+1)+16:Nat):Int)) 17 rfl kj (Qan (u:=.int .i64 (IntKind.i64.wrap (((n+1:Nat):Int)+16))) kj (congrArg (Value.int .i64) (i64n _ _ (by omega) (by omega)))) ?_
 refine Qab (.int .i64 128) 18 rfl kj kj ?_
 refine Qab (.int .i64 ((((n+1)+16)%128:Nat):Int)) 19 rfl kj (Qan (u:=.int .i64 (Int.tmod ((((n+1)+16:Nat):Int)) (128))) kj (congrArg (Value.int .i64) (QcU _ 128))) ?_
 refine Qab (.int .i64 ((128-(((n+1)+16)%128):Nat):Int)) 20 rfl kj (Qan (u:=.int .i64 (IntKind.i64.wrap (128-((((n+1)+16)%128:Nat):Int)))) kj (congrArg (Value.int .i64) (i64n _ _ (by omega) (by omega)))) ?_
 refine Qab (.int .i64 128) 21 rfl kj kj ?_
 refine Qab (.int .i64 (((fillN n:Nat):Int))) 22 rfl kj (Qan (u:=.int .i64 (Int.tmod (((128-(((n+1)+16)%128):Nat):Int)) (128))) kj (congrArg (Value.int .i64) ((QcU _ 128).trans (congrArg (fun z:Nat=>(z:Int)) (Qpk n))))) ?_
 refine Qab (.int .i64 (((fillN n:Nat):Int))) 7 rfl kj kj ?_
 refine Qaf ?_
 refine hK2 _ _ ?_
 refine wp_seq_k fun K3 hK3=>?_
 refine Qac ?_
 refine Qab (.int .i64 (((fillN n:Nat):Int))) 23 rfl kj kj ?_
 refine Qab (.int .i64 ((1+(fillN n):Nat):Int)) 24 rfl kj (Qan (u:=.int .i64 (IntKind.i64.wrap (1+(((fillN n:Nat):Int))))) kj (congrArg (Value.int .i64) (i64n _ _ (by omega) (by omega)))) ?_
 refine Qab (.int .i64 16) 25 rfl kj kj ?_
 refine Qab (.int .i64 (((1+(fillN n))+16:Nat):Int)) 26 rfl kj (Qan (u:=.int .i64 (IntKind.i64.wrap (((1+(fillN n):Nat):Int)+16))) kj (congrArg (Value.int .i64) (i64n _ _ (by omega) (by omega)))) ?_
 refine QaR (ints .u8 (List.replicate ((1+(fillN n))+16) 0)) 5 ((1+(fillN n))+16) 27 rfl kj (Qex 27 _ _ .i64 .i64 ((1+(fillN n))+16) 5 rfl kj kj kj (.inr kj) (by omega)) fun g4 W1 l4 e1 r4_1=>?_
 have x1:Ext w W1:=Ext.tr (Rely.Ext.refl w) e1
 have b4:w.heap.size≤g4:=qT (Rely.Ext.refl w).size l4
 refine Qab (.slice (some ⟨g4,0,none⟩) ((1+(fillN n))+16) ((1+(fillN n))+16)) 8 rfl kj kj ?_
 refine Qaf ?_
 refine hK3 _ _ ?_
 refine wp_seq_k fun K5 hK5=>?_
 refine Qac ?_
 refine Qab (.slice (some ⟨g4,0,none⟩) ((1+(fillN n))+16) ((1+(fillN n))+16)) 28 rfl kj kj ?_
 refine Qab (.pointer (some ⟨g4,0,none⟩)) 29 rfl kj (QaG 27 _ _ .i64 (0) g4 ((1+(fillN n))+16) ((1+(fillN n))+16) 5 rfl kj kj kj kj (by omega)) ?_
 refine Qak g4 _ (ints .u8 ((List.replicate ((1+(fillN n))+16) 0).set 0 128)) 5 r4_1 rfl kj (Qa1 5 _ _ g4 0 5 _ _ r4_1 rfl kj kj kj (Nat.lt_of_lt_of_eq (by omega) (qZ (n:=((1+(fillN n))+16))).symm)) fun W2 p2 r4_2=>?_
 have x2:Ext w W2:=Puts.ext p2 x1 b4
 refine Qaf ?_
 refine hK5 _ _ ?_
 refine wp_seq_k fun K6 hK6=>?_
 refine Qac ?_
 refine Qab (.int .i64 ((n:Nat):Int)) 30 rfl kj kj ?_
 refine Qab (.int .u64 (((n:Nat):Int))) 31 rfl kj (Qan (u:=.int .u64 (IntKind.u64.wrap ((n:Nat):Int))) kj (congrArg (Value.int .u64) (QpJ n (by omega)))) ?_
 refine Qab (.int .u64 (((8*n:Nat):Int))) 32 rfl kj (Qbp .shl _ _ _ _ .u64 .u64 _ _ _ rfl kj kj (QlA _ _ _ _ _ _ (by decide) (QqQ n (by omega)))) ?_
 refine Qab (.int .i64 ((n:Nat):Int)) 33 rfl kj kj ?_
 refine Qab (.int .u64 (((n:Nat):Int))) 34 rfl kj (Qan (u:=.int .u64 (IntKind.u64.wrap ((n:Nat):Int))) kj (congrArg (Value.int .u64) (QpJ n (by omega)))) ?_
 refine Qab (.int .u64 (0)) 35 rfl kj (Qbp .shr _ _ _ _ .u64 .u64 _ _ _ rfl kj kj (QcY _ _ _ _ _ _ (by decide) (QpL n (by omega)))) ?_
 refine Qab (.int .u64 (((8*n:Nat):Int))) 9 rfl kj kj ?_
 refine Qab (.int .u64 (0)) 10 rfl kj kj ?_
 refine Qaf ?_
 refine hK6 _ _ ?_
 refine wp_seq_k fun K7 hK7=>?_
 refine wp_seq_k fun K8 hK8=>?_
 refine Qac ?_
 refine Qab (.int .i64 16) 36 rfl kj kj ?_
 refine Qab (.int .i64 0) 37 rfl kj kj ?_
 refine Qaf ?_
 refine hK8 _ _ ?_
 refine wp_block ?_
 refine QaI (fun (s1:Nat)=>[(8,.slice (some ⟨g4,0,none⟩) ((1+(fillN n))+16) ((1+(fillN n))+16)),(9,.int .u64 ((8*n/256^s1:Nat):Int)),(10,.int .u64 0),(36,.int .i64 16),(37,.int .i64 ((s1:Nat):Int))]) (fun (s1:Nat) W=>(s1≤16)∧(W.heap[g4]? = some (.cells (ints .u8 (padL n s1)) 5))∧(Qa7 [g4] W2 W)∧(Ext w W)) (fun (s1:Nat)=>16-s1) 0 ⟨rfl,(congrArg (fun z:Nat=>Value.int .u64 (z:Int)) (Nat.div_one _).symm),rfl,rfl,rfl,trivial⟩ ⟨(Nat.zero_le _),(QaB r4_2 (Qqi n)),(Qa7.refl [g4] W2),x2⟩ fun s1 X1 V1 hI1=>?_
 obtain ⟨i,hs1⟩:∃ z,z=s1:=⟨_,rfl⟩
 subst hs1
 obtain ⟨hi,q4_1,kk1,xx1⟩:=hI1
 replace hi:i≤16:=hi
 replace q4_1:V1.heap[g4]? = some (.cells (ints .u8 (padL n i)) 5):=q4_1
 replace kk1:Qa7 [g4] W2 V1:=kk1
 replace xx1:Ext w V1:=xx1
 have q3:=kk1
 refine wp_seq_k fun K9 hK9=>?_
 refine Qac ?_
 refine Qab (.bool (decide (((i:Nat):Int)<16))) 38 rfl kj kj ?_
 refine Qaf ?_
 refine hK9 _ _ ?_
 refine wp_seq_k fun K10 hK10=>?_
 refine Qa5 (t:=decide (((i:Nat):Int)<16)) kj (fun c11=>?_) (fun c11=>?_)
 ·skip
  have hlt38:i<16:=by have:=of_decide_eq_true c11; omega
  refine wp_skip ?_
  refine hK10 _ _ ?_
  refine wp_seq_k fun K12 hK12=>?_
  refine wp_block ?_
  refine wp_seq_k fun K13 hK13=>?_
  refine Qac ?_
  refine Qab (.int .i64 ((i:Nat):Int)) 39 rfl kj kj ?_
  refine Qab (.int .i64 ((i:Nat):Int)) 11 rfl kj kj ?_
  refine Qaf ?_
  refine hK13 _ _ ?_
  refine wp_seq_k fun K14 hK14=>?_
  refine Qac ?_
  refine Qab (.int .u64 ((8*n/256^i:Nat):Int)) 40 rfl kj kj ?_
  refine Qab (.int .u8 (((8*n/256^i%256:Nat):Int))) 41 rfl kj (Qan (u:=.int .u8 (IntKind.u8.wrap ((8*n/256^i:Nat):Int))) kj (congrArg (Value.int .u8) (Qpx _))) ?_
  refine Qab (.int .u8 (((8*n/256^i%256:Nat):Int))) 12 rfl kj kj ?_
  refine Qaf ?_
  refine hK14 _ _ ?_
  refine wp_seq_k fun K15 hK15=>?_
  refine Qac ?_
  refine Qab (.slice (some ⟨g4,0,none⟩) ((1+(fillN n))+16) ((1+(fillN n))+16)) 42 rfl kj kj ?_
  refine Qab (.slice (some ⟨g4,0,none⟩) ((1+(fillN n))+16) ((1+(fillN n))+16)) 43 rfl kj kj ?_
  refine Qab (.int .i64 (((1+(fillN n))+16:Nat):Int)) 44 rfl kj kj ?_
  refine Qab (.int .i64 ((((1+(fillN n))+16)-1:Nat):Int)) 45 rfl kj (Qan (u:=.int .i64 (IntKind.i64.wrap ((((1+(fillN n))+16:Nat):Int)-1))) kj (congrArg (Value.int .i64) (i64n _ _ (by omega) (by omega)))) ?_
  refine Qab (.int .i64 ((i:Nat):Int)) 46 rfl kj kj ?_
  refine Qab (.int .i64 (((((1+(fillN n))+16)-1)-i:Nat):Int)) 47 rfl kj (Qan (u:=.int .i64 (IntKind.i64.wrap (((((1+(fillN n))+16)-1:Nat):Int)-((i:Nat):Int)))) kj (congrArg (Value.int .i64) (i64n _ _ (by omega) (by omega)))) ?_
  refine Qab (.int .u8 (((8*n/256^i%256:Nat):Int))) 48 rfl kj kj ?_
  refine Qab (.pointer (some ⟨g4,((((1+(fillN n))+16)-1)-i),none⟩)) 49 rfl kj (QaG 27 _ _ .i64 ((((1+(fillN n))+16)-1)-i) g4 ((1+(fillN n))+16) ((1+(fillN n))+16) 5 rfl kj kj kj kj (by omega)) ?_
  refine Qak g4 _ (ints .u8 ((padL n i).set ((((1+(fillN n))+16)-1)-i) (((8*n/256^i%256:Nat):Int)))) 5 q4_1 rfl kj (Qa1 5 _ _ g4 ((((1+(fillN n))+16)-1)-i) 5 _ _ q4_1 rfl kj kj kj (Nat.lt_of_lt_of_eq (by omega) (Qmr n (by omega)).symm)) fun W4 p4 r4_4=>?_
  have x4:Ext w W4:=Puts.ext p4 xx1 b4
  refine Qaf ?_
  refine hK15 _ _ ?_
  refine wp_seq_k fun K16 hK16=>?_
  refine Qac ?_
  refine Qab (.int .u64 ((8*n/256^i:Nat):Int)) 50 rfl kj kj ?_
  refine Qab (.int .u64 (((8*n/256^(i+1):Nat):Int))) 51 rfl kj (Qbp .shr _ _ _ _ .u64 .u64 _ _ _ rfl kj kj (QcY _ _ _ _ _ _ (by decide) (QqX n i))) ?_
  refine Qab (.int .u64 0) 52 rfl kj kj ?_
  refine Qab (.int .u64 (0)) 53 rfl kj (Qbp .shl _ _ _ _ .u64 .u64 _ _ _ rfl kj kj (QlA _ _ _ _ _ _ (by decide) (show IntKind.u64.wrap (0*2^min (56:Int).toNat IntKind.u64.bits)=0 from rfl))) ?_
  refine Qab (.int .u64 (((8*n/256^(i+1):Nat):Int))) 54 rfl kj (Qan (u:=.int .u64 (bits .or .u64 (((8*n/256^(i+1):Nat):Int)) (0))) kj (congrArg (Value.int .u64) (or0 _ (lowlt n i (by omega))))) ?_
  refine Qab (.int .u64 (((8*n/256^(i+1):Nat):Int))) 9 rfl kj kj ?_
  refine Qaf ?_
  refine hK16 _ _ ?_
  refine Qac ?_
  refine Qab (.int .u64 0) 55 rfl kj kj ?_
  refine Qab (.int .u64 (0)) 56 rfl kj (Qbp .shr _ _ _ _ .u64 .u64 _ _ _ rfl kj kj (QcY _ _ _ _ _ _ (by decide) (show Int.fdiv 0 (2^min (8:Int).toNat IntKind.u64.bits)=0 from rfl))) ?_
  refine Qab (.int .u64 (0)) 10 rfl kj kj ?_
  refine Qaf ?_
  refine hK12 _ _ ?_
  refine Qac ?_
  refine Qab (.int .i64 ((i+1:Nat):Int)) 57 rfl kj (Qan (u:=.int .i64 (IntKind.i64.wrap (((i:Nat):Int)+1))) kj (congrArg (Value.int .i64) (i64n _ _ (by omega) (by omega)))) ?_
  refine Qab (.int .i64 ((i+1:Nat):Int)) 37 rfl kj kj ?_
  refine Qaf ?_
  repeat (first | with_reducible refine goX1 ?_ | with_reducible refine goX2 ?_ | with_reducible refine goX3 ?_)
  exact QaA (i+1) ⟨rfl,rfl,rfl,rfl,rfl,trivial⟩ ⟨(by omega),(QaB r4_4 (Qmq n i (by omega) hlt38)),(Qa7.puts q3 p4 (.inl (by simp))),x4⟩ (by omega)
 ·skip
  have heq38:i=16:=by have:=of_decide_eq_false c11; omega
  have r4_3_17:V1.heap[g4]? = some (.cells (ints .u8 (tailP n)) 5):=QaB q4_1 (by rw [heq38]; rfl)
  refine wp_exit ?_
  refine hK7 _ _ ?_
  refine wp_seq_k fun K18 hK18=>?_
  refine Qac ?_
  refine Qab (.slice (some ⟨g4,0,none⟩) ((1+(fillN n))+16) ((1+(fillN n))+16)) 58 rfl kj kj ?_
  refine Qab (.slice (some ⟨g4,0,none⟩) ((1+(fillN n))+16) ((1+(fillN n))+16)) 6 rfl kj kj ?_
  refine Qaf ?_
  refine hK18 _ _ ?_
  refine wp_ret ?_
  repeat (first | with_reducible refine goR1 ?_ | with_reducible refine goR2 ?_)
  exact (show bodyPost _ _ _ .ret _ _ from ret1 (.slice (some ⟨g4,0,none⟩) ((1+(fillN n))+16) ((1+(fillN n))+16)) rfl (Qbr kj) ⟨_,rfl,xx1,Qe4 (Qeq n) b4 r4_3_17 (by simp only [maxLen]; omega)⟩)
end Go.Proofs.YtdoadngmgmdlbaaDoor.Sha5
end
section
namespace Go.Proofs.YtdoadngmgmdlbaaDoor.Sha5
open Go Go.RowKit
open Rely Auto Own
theorem newC (tq : TypeId) (w:World) (hq:w.heap[4]? = some (.cells (ints .u64 Qbc) tq)):Calls Tryd.prog 78 #[] w (QfT w (fun v W=>∃ g,v=.pointer (some ⟨g,0,none⟩)∧w.heap.size≤g∧HasD g [] W)):=by
  refine enter 4 [] Tryd.func78 rfl rfl kj rfl ?_
  refine wp_seq_k fun K2 hK2=>?_
  refine Qac ?_
  refine Qab (.pointer none) 0 rfl kj kj ?_
  refine Qaf ?_
  refine hK2 _ _ ?_
  refine wp_seq_k fun K3 hK3=>?_
  refine Qac ?_
  refine Qab (.agg (ints .u64 (Qbc))) 1 rfl kj (Qag 85 _ 4 tq _ _ hq rfl kj kj (isz (n:=8) kj ((Qae _ _).trans (show Qbc.length=8 from rfl)))) ?_
  refine Qab (.agg (cat [ints .u64 (Qbc),ints .u8 (List.replicate 128 0),#[.int .i64 0]])) 2 rfl kj kj ?_
  refine Qaj (cat [ints .u64 (Qbc),ints .u8 (List.replicate 128 0),#[.int .i64 0]]) 128 3 rfl kj kj fun g4 W1 l4 e1 r4_1=>?_
  have x1:Ext w W1:=Ext.tr (Rely.Ext.refl w) e1
  have b4:w.heap.size≤g4:=qT (Rely.Ext.refl w).size l4
  refine Qab (.pointer (some ⟨g4,0,none⟩)) 0 rfl kj kj ?_
  refine Qaf ?_
  refine hK3 _ _ ?_
  refine wp_ret ?_
  repeat (first | with_reducible refine goR1 ?_ | with_reducible refine goR2 ?_)
  exact (show bodyPost _ _ _ .ret _ _ from ret1 (.pointer (some ⟨g4,0,none⟩)) rfl (Qbr kj) ⟨_,rfl,x1,_,rfl,b4,List.replicate 128 0,qZ,Qeh 128,rfl,Nat.zero_le _,(by have h9:=r4_1; rw [show Qbc=S0.l.map wv by decide +kernel] at h9; exact h9)⟩)
end Go.Proofs.YtdoadngmgmdlbaaDoor.Sha5
end
section
namespace Go.Proofs.YtdoadngmgmdlbaaDoor.Sha5
open Go Go.RowKit
open Rely Auto Own
theorem QpD (x : Int):IntKind.u8.wrap x=x%256:=by
  have:IntKind.u8.wrap x=x%2^8:=rfl
  rw [this]; rfl
theorem QpG (x : Wd) (n:Nat):IntKind.u8.wrap (wv (x>>>n))=((x.toNat/2^n%256:Nat):Int):=by
  rw [QpD]; unfold wv; rw [BitVec.toNat_ushiftRight,Nat.shiftRight_eq_div_pow]; omega
theorem QiW (s : S8) {a b:Nat} (ha:a<8) (hb:b<8):IntKind.u8.wrap (wv (wget s.l a>>>(56-8*b)))=nth s.out (8*a+b):=by
  rcases (show b=0∨b=1∨b=2∨b=3∨b=4∨b=5∨b=6∨b=7 by omega) with rfl | rfl | rfl | rfl | rfl | rfl | rfl | rfl <;> rcases (show a=0∨a=1∨a=2∨a=3∨a=4∨a=5∨a=6∨a=7 by omega) with rfl | rfl | rfl | rfl | rfl | rfl | rfl | rfl <;> exact QpG _ _
theorem Qfz (n : Nat):Qal (tailP n):=fun x hx=>by
  unfold tailP at hx
  rcases List.mem_cons.1 hx with h | h
  · omega
  · rcases List.mem_append.1 h with h | h
    · exact Qeh _ x h
    · rcases List.mem_append.1 h with h | h
      · exact Qeh _ x h
      · simp only [be8,List.mem_cons,List.not_mem_nil,or_false] at h
        rcases h with h | h | h | h | h | h | h | h <;> omega
set_option maxHeartbeats 8000000 in
theorem sumC (g : Nat) (t:List Int) (tc:TypeId) (w:World) (hc:w.heap[5]? = some (.cells (ints .u64 Qc6) tc)) (hcg:5≠g) (hlen:t.length≤900000000) (hd:HasD g t w):Calls Tryd.prog 80 #[.pointer (some ⟨g,0,none⟩)] w (fun e W=>e=.returned (.agg (ints .u8 (dig t)))∧ExtB g w W):=by
 obtain ⟨b,hbl,hbb,hbp,hmany,hrow⟩:=hd
 obtain ⟨s,hs⟩:∃ z,z=absorb S0 t (t.length/128):=⟨_,rfl⟩
 rw [←hs] at hrow
 replace hrow:w.heap[g]? = some (.cells (cat [ints .u64 ([wv s.a,wv s.b,wv s.c,wv s.d,wv s.e,wv s.f,wv s.g,wv s.h]),ints .u8 (b),#[.int .i64 ((t.length:Nat):Int)]]) 128):=hrow
 refine enter 39 [(0,.pointer (some ⟨g,0,none⟩))] Tryd.func80 rfl rfl kj rfl ?_
 refine wp_seq_k fun K3 hK3=>?_
 refine Qac ?_
 refine Qaj (ints .u8 (List.replicate 64 0)) 30 2 rfl kj kj fun g4 W1 l4 e1 r4_1=>?_
 have x1:ExtB g w W1:=ExtB.ext (ExtB.refl g w) e1
 have b4:w.heap.size≤g4:=qT (ExtB.refl g w).size l4
 refine Qaf ?_
 refine hK3 _ _ ?_
 refine wp_seq_k fun K5 hK5=>?_
 refine Qac ?_
 refine Qab (.pointer (some ⟨g,0,none⟩)) 7 rfl kj kj ?_
 refine Qab (.pointer (some ⟨g,0,none⟩)) 8 rfl kj kj ?_
 refine Qab (.pointer (some ⟨g,0,none⟩)) 9 rfl kj kj ?_
 refine Qab (.pointer (some ⟨g,136,none⟩)) 10 rfl kj kj ?_
 have r2_1:=(Qaa hrow e1)
 refine Qab (.int .i64 ((t.length:Nat):Int)) 11 rfl kj (Qam 3 _ g 136 128 _ (.int .i64 ((t.length:Nat):Int)) _ r2_1 rfl kj (QaH [ints .u64 ([wv s.a,wv s.b,wv s.c,wv s.d,wv s.e,wv s.f,wv s.g,wv s.h]),ints .u8 (b)] [#[.int .i64 ((t.length:Nat):Int)]] [] 136 (by rw [Qcr,Qcr]; simp only [qS,cat,((Qae _ _).trans hbl)]; rfl) 0 _ rfl) kj) ?_
 refine Qb6 (fun v W'=>(OwnN .u8 5 W1.heap.size (tailP t.length)) v W'∧Ext W1 W') 97 #[.int .i64 ((t.length:Nat):Int),.int .i64 128,.int .i64 16] 12 rfl kj kj ((Qmn t.length (by omega) _).mono (by rintro e w' ⟨v,rfl,e1,hv⟩; exact ⟨v,rfl,hv,e1⟩)) fun vv6 W2 hh6=>?_
 obtain ⟨hv6,e2⟩:=hh6
 have x2:ExtB g w W2:=ExtB.ext x1 e2
 have r2_2:=(Qaa r2_1 e2)
 have r1_1:=(Qaa hc e1)
 have r1_2:=(Qaa r1_1 e2)
 have hd4:HasD g t W2:=⟨b,hbl,hbb,hbp,hmany,by rw [←hs]; exact r2_2⟩
 have hp4:=hv6
 have hfl:fillN t.length<128:=by unfold fillN; omega
 have hpl:t.length+(tailP t.length).length≤1000000000:=by rw [Qeq]; omega
 refine Qb6 (fun v W'=>v=.tuple #[]∧ExtB g W2 W'∧HasD g (t++tailP t.length) W') 79 #[.pointer (some ⟨g,0,none⟩),vv6] 13 rfl kj kj ((addC g _ t (tailP t.length) _ tc _ r1_2 hcg (.inr (hp4.nb (Qa3 r2_1))) (Qfz _) hpl hd4 (OwnN.rd hp4)).mono fun e w' h=>⟨_,h.1,rfl,h.2⟩) fun v W3 h=>?_
 obtain ⟨rfl,q3,hD5⟩:=h
 have x3:ExtB g w W3:=ExtB.trans x2 q3
 obtain ⟨b5,hbl5,hbb5,-,-,hrow5⟩:=hD5
 obtain ⟨s5,hs5⟩:∃ z,z=absorb S0 (padT t) ((padT t).length/128):=⟨_,rfl⟩
 rw [show t++tailP t.length=padT t from rfl,←hs5] at hrow5
 replace hrow5:W3.heap[g]? = some (.cells (cat [ints .u64 ([wv s5.a,wv s5.b,wv s5.c,wv s5.d,wv s5.e,wv s5.f,wv s5.g,wv s5.h]),ints .u8 (b5),#[.int .i64 (((padT t).length:Nat):Int)]]) 128):=hrow5
 refine Qaf ?_
 refine hK5 _ _ ?_
 refine wp_seq_k fun K7 hK7=>?_
 refine Qac ?_
 refine Qaj (ints .u8 (List.replicate 64 0)) 30 3 rfl kj kj fun g8 W4 l8 e4 r8_4=>?_
 have x4:ExtB g w W4:=ExtB.ext x3 e4
 have b8:w.heap.size≤g8:=qT x3.size l8
 refine Qaf ?_
 refine hK7 _ _ ?_
 refine wp_seq_k fun K9 hK9=>?_
 refine wp_seq_k fun K10 hK10=>?_
 refine Qac ?_
 refine Qab (.pointer (some ⟨g,0,none⟩)) 14 rfl kj kj ?_
 refine Qab (.pointer (some ⟨g,0,none⟩)) 15 rfl kj kj ?_
 refine Qab (.pointer (some ⟨g,0,none⟩)) 16 rfl kj kj ?_
 have r2_4:=(Qaa hrow5 e4)
 refine Qab (.agg (ints .u64 ([wv s5.a,wv s5.b,wv s5.c,wv s5.d,wv s5.e,wv s5.f,wv s5.g,wv s5.h]))) 17 rfl kj (Qaw 85 _ g 0 128 _ _ _ r2_4 rfl kj (QaH [] [ints .u64 ([wv s5.a,wv s5.b,wv s5.c,wv s5.d,wv s5.e,wv s5.f,wv s5.g,wv s5.h])] [ints .u8 (b5),#[.int .i64 (((padT t).length:Nat):Int)]] 0 kj) kj (isz (n:=8) kj kj)) ?_
 refine Qab (.int .i64 0) 18 rfl kj kj ?_
 refine Qaf ?_
 refine hK10 _ _ ?_
 refine wp_block ?_
 refine QaI (fun (s1:Nat)=>[(2,.pointer (some ⟨g4,0,none⟩)),(3,.pointer (some ⟨g8,0,none⟩)),(17,.agg (ints .u64 ([wv s5.a,wv s5.b,wv s5.c,wv s5.d,wv s5.e,wv s5.f,wv s5.g,wv s5.h]))),(18,.int .i64 ((s1:Nat):Int))]) (fun (s1:Nat) W=>(s1≤8)∧(W.heap[g8]? = some (.cells (ints .u8 (fill s5.out 64 (8*s1))) 30))∧(Qa7 [g8] W4 W)∧(ExtB g w W)) (fun (s1:Nat)=>8-s1) 0 ⟨rfl,rfl,rfl,rfl,trivial⟩ ⟨(Nat.zero_le _),(QaB r8_4 (fill_zero s5.out 64).symm),(Qa7.refl [g8] W4),x4⟩ fun s1 X1 V1 hI1=>?_
 obtain ⟨i,hs1⟩:∃ z,z=s1:=⟨_,rfl⟩
 subst hs1
 obtain ⟨hi,q8_1,kk1,xx1⟩:=hI1
 replace hi:i≤8:=hi
 replace q8_1:V1.heap[g8]? = some (.cells (ints .u8 (fill s5.out 64 (8*i))) 30):=q8_1
 replace kk1:Qa7 [g8] W4 V1:=kk1
 replace xx1:ExtB g w V1:=xx1
 have q5:=kk1
 refine wp_seq_k fun K11 hK11=>?_
 refine Qac ?_
 refine Qab (.bool (decide (((i:Nat):Int)<8))) 19 rfl kj kj ?_
 refine Qaf ?_
 refine hK11 _ _ ?_
 refine wp_seq_k fun K12 hK12=>?_
 refine Qa5 (t:=decide (((i:Nat):Int)<8)) kj (fun c13=>?_) (fun c13=>?_)
 ·skip
  have hlt19:i<8:=by have:=of_decide_eq_true c13; omega
  refine wp_skip ?_
  refine hK12 _ _ ?_
  refine wp_seq_k fun K14 hK14=>?_
  refine wp_block ?_
  refine wp_seq_k fun K15 hK15=>?_
  refine Qac ?_
  refine Qab (.int .i64 ((i:Nat):Int)) 20 rfl kj kj ?_
  refine Qab (.int .u64 (wv (wget s5.l i))) 21 rfl kj (run_index_il 85 _ _ .i64 .u64 ([wv s5.a,wv s5.b,wv s5.c,wv s5.d,wv s5.e,wv s5.f,wv s5.g,wv s5.h]) i 8 46 (wv (wget s5.l i)) rfl kj kj kj kj kj rfl (by omega) (show nth (s5.l.map wv) i=_ from nth_map _ _)) ?_
  refine Qab (.int .i64 ((i:Nat):Int)) 4 rfl kj kj ?_
  refine Qab (.int .u64 (wv (wget s5.l i))) 5 rfl kj kj ?_
  refine Qaf ?_
  refine hK15 _ _ ?_
  refine wp_seq_k fun K16 hK16=>?_
  refine Qac ?_
  refine Qab (.int .i64 0) 22 rfl kj kj ?_
  refine Qaf ?_
  refine hK16 _ _ ?_
  refine wp_block ?_
  refine QaI (fun (s2:Nat)=>[(2,.pointer (some ⟨g4,0,none⟩)),(3,.pointer (some ⟨g8,0,none⟩)),(4,.int .i64 ((i:Nat):Int)),(5,.int .u64 (wv (wget s5.l i))),(17,.agg (ints .u64 ([wv s5.a,wv s5.b,wv s5.c,wv s5.d,wv s5.e,wv s5.f,wv s5.g,wv s5.h]))),(18,.int .i64 ((i:Nat):Int)),(22,.int .i64 ((s2:Nat):Int))]) (fun (s2:Nat) W=>(s2≤8)∧(W.heap[g8]? = some (.cells (ints .u8 (fill s5.out 64 (8*i+s2))) 30))∧(Qa7 [g8] V1 W)∧(ExtB g w W)) (fun (s2:Nat)=>8-s2) 0 ⟨rfl,rfl,rfl,rfl,rfl,rfl,rfl,trivial⟩ ⟨(Nat.zero_le _),(QaB q8_1 (show _=fill s5.out 64 (8*i+0) from rfl)),(Qa7.refl [g8] V1),xx1⟩ fun s2 X2 V2 hI2=>?_
  obtain ⟨j,hs2⟩:∃ z,z=s2:=⟨_,rfl⟩
  subst hs2
  obtain ⟨hj,q8_2,kk2,xx2⟩:=hI2
  replace hj:j≤8:=hj
  replace q8_2:V2.heap[g8]? = some (.cells (ints .u8 (fill s5.out 64 (8*i+j))) 30):=q8_2
  replace kk2:Qa7 [g8] V1 V2:=kk2
  replace xx2:ExtB g w V2:=xx2
  have q6:=kk2
  refine wp_seq_k fun K17 hK17=>?_
  refine Qac ?_
  refine Qab (.bool (decide (((j:Nat):Int)<8))) 23 rfl kj kj ?_
  refine Qaf ?_
  refine hK17 _ _ ?_
  refine wp_seq_k fun K18 hK18=>?_
  refine Qa5 (t:=decide (((j:Nat):Int)<8)) kj (fun c19=>?_) (fun c19=>?_)
  ·skip
   have hlt23:j<8:=by have:=of_decide_eq_true c19; omega
   refine wp_skip ?_
   refine hK18 _ _ ?_
   refine wp_seq_k fun K20 hK20=>?_
   refine wp_block ?_
   refine wp_seq_k fun K21 hK21=>?_
   refine Qac ?_
   refine Qab (.int .i64 ((j:Nat):Int)) 24 rfl kj kj ?_
   refine Qab (.int .i64 ((j:Nat):Int)) 6 rfl kj kj ?_
   refine Qaf ?_
   refine hK21 _ _ ?_
   refine Qac ?_
   refine Qab (.int .i64 ((i:Nat):Int)) 25 rfl kj kj ?_
   refine Qab (.int .i64 ((8*i:Nat):Int)) 26 rfl kj (Qan (u:=.int .i64 (IntKind.i64.wrap (8*((i:Nat):Int)))) kj (congrArg (Value.int .i64) (i64n _ _ (by omega) (by omega)))) ?_
   refine Qab (.int .i64 ((j:Nat):Int)) 27 rfl kj kj ?_
   refine Qab (.int .i64 (((8*i)+j:Nat):Int)) 28 rfl kj (Qan (u:=.int .i64 (IntKind.i64.wrap (((8*i:Nat):Int)+((j:Nat):Int)))) kj (congrArg (Value.int .i64) (i64n _ _ (by omega) (by omega)))) ?_
   refine Qab (.int .u64 (wv (wget s5.l i))) 29 rfl kj kj ?_
   refine Qab (.int .i64 ((j:Nat):Int)) 30 rfl kj kj ?_
   refine Qab (.int .i64 ((8*j:Nat):Int)) 31 rfl kj (Qan (u:=.int .i64 (IntKind.i64.wrap (8*((j:Nat):Int)))) kj (congrArg (Value.int .i64) (i64n _ _ (by omega) (by omega)))) ?_
   refine Qab (.int .i64 (((56-8*j:Nat):Int))) 32 rfl kj (Qan (u:=.int .i64 (IntKind.i64.wrap (56-((8*j:Nat):Int)))) kj (congrArg (Value.int .i64) (i64n _ _ (by omega) (by omega)))) ?_
   refine Qab (.int .u64 (wv (wget s5.l i>>>(56-8*j)))) 33 rfl kj (Qbp .shr _ _ _ _ .u64 .i64 _ _ _ rfl kj kj (QcY _ _ _ _ _ _ (by omega) (w_shr _ _ (56-8*j) rfl (by omega)))) ?_
   refine Qab (.int .u8 (nth s5.out (8*i+j))) 34 rfl kj (Qan (u:=.int .u8 (IntKind.u8.wrap (wv (wget s5.l i>>>(56-8*j))))) kj (congrArg (Value.int .u8) (QiW s5 hlt19 hlt23))) ?_
   refine Qab (.pointer (some ⟨g8,(8*i)+j,none⟩)) 35 rfl kj (QaD _ _ _ .i64 ((8*i)+j) _ 64 5 rfl kj kj kj kj (by omega)) ?_
   refine Qak g8 _ (ints .u8 ((fill s5.out 64 (8*i+j)).set ((8*i)+j) (nth s5.out (8*i+j)))) 30 q8_2 rfl kj (Qa1 5 _ _ g8 ((8*i)+j) 30 _ _ q8_2 rfl kj kj kj (Nat.lt_of_lt_of_eq (by omega) (fill_len (show s5.out.length=64 from rfl) (by omega)).symm)) fun W7 p7 r8_7=>?_
   have x7:ExtB g w W7:=ExtB.putsN xx2 p7 b8
   refine Qaf ?_
   refine hK20 _ _ ?_
   refine Qac ?_
   refine Qab (.int .i64 ((j+1:Nat):Int)) 36 rfl kj (Qan (u:=.int .i64 (IntKind.i64.wrap (((j:Nat):Int)+1))) kj (congrArg (Value.int .i64) (i64n _ _ (by omega) (by omega)))) ?_
   refine Qab (.int .i64 ((j+1:Nat):Int)) 22 rfl kj kj ?_
   refine Qaf ?_
   repeat (first | with_reducible refine goX1 ?_ | with_reducible refine goX2 ?_ | with_reducible refine goX3 ?_)
   exact QaA (j+1) ⟨rfl,rfl,rfl,rfl,rfl,rfl,rfl,trivial⟩ ⟨(by omega),(QaB r8_7 (fill_set (show s5.out.length=64 from rfl) (by omega))),(Qa7.puts q6 p7 (.inl (by simp))),x7⟩ (by show 8-(j+1)<8-j; omega)
  ·skip
   have heq23:j=8:=by have:=of_decide_eq_false c19; omega
   have r8_6_22:V2.heap[g8]? = some (.cells (ints .u8 (fill s5.out 64 (8*(i+1)))) 30):=QaB q8_2 (by rw [heq23]; rfl)
   refine wp_exit ?_
   refine hK14 _ _ ?_
   refine Qac ?_
   refine Qab (.int .i64 ((i+1:Nat):Int)) 37 rfl kj (Qan (u:=.int .i64 (IntKind.i64.wrap (((i:Nat):Int)+1))) kj (congrArg (Value.int .i64) (i64n _ _ (by omega) (by omega)))) ?_
   refine Qab (.int .i64 ((i+1:Nat):Int)) 18 rfl kj kj ?_
   refine Qaf ?_
   repeat (first | with_reducible refine goX1 ?_ | with_reducible refine goX2 ?_ | with_reducible refine goX3 ?_)
   exact QaA (i+1) ⟨rfl,rfl,rfl,rfl,trivial⟩ ⟨(by omega),r8_6_22,(Qa7.keeps q5 q6 (Qf5 (.inl (by simp)) Qh4)),xx2⟩ (by show 8-(i+1)<8-i; omega)
 ·skip
  have heq19:i=8:=by have:=of_decide_eq_false c13; omega
  have r8_5_23:V1.heap[g8]? = some (.cells (ints .u8 (s5.out)) 30):=QaB q8_1 (by rw [heq19]; exact fill_full (show s5.out.length=64 from rfl))
  refine wp_exit ?_
  refine hK9 _ _ ?_
  refine wp_seq_k fun K24 hK24=>?_
  refine Qac ?_
  refine Qab (.agg (ints .u8 (s5.out))) 38 rfl kj (Qag 30 _ g8 30 _ _ r8_5_23 rfl kj kj (isz (n:=64) kj ((Qae _ _).trans (show s5.out.length=64 from rfl)))) ?_
  have r4_2:=(Qaa r4_1 e2)
  have r4_3:=(ExtB.row q3 r4_2 (Qat hrow l4))
  have r4_4:=(Qaa r4_3 e4)
  have r4_5:=(Qa7.row q5 r4_4 (Qbj (Qad r4_3 l8) QbI))
  refine Qak g4 _ (ints .u8 (s5.out)) 30 r4_5 rfl kj (Qah 30 _ _ g4 30 _ _ r4_5 rfl kj kj (isz (n:=64) kj ((Qae _ _).trans (show s5.out.length=64 from rfl))) (eqsz (n:=64) ((Qae _ _).trans (qZ (n:=64))) ((Qae _ _).trans (show s5.out.length=64 from rfl))) (ints_one _ _)) fun W6 p6 r4_6=>?_
  have x6:ExtB g w W6:=ExtB.putsN xx1 p6 b4
  refine Qaf ?_
  refine hK24 _ _ ?_
  refine wp_ret ?_
  repeat (first | with_reducible refine goR1 ?_ | with_reducible refine goR2 ?_)
  exact (show bodyPost _ _ _ .ret _ _ from ret1 (.agg (ints .u8 (s5.out))) rfl (QaC g4 30 _ r4_6 kj kj (isz (n:=64) kj ((Qae _ _).trans (show s5.out.length=64 from rfl)))) ⟨by rw [show dig t=s5.out by rw [hs5]; rfl],x6⟩)
end Go.Proofs.YtdoadngmgmdlbaaDoor.Sha5
end
section
namespace Go.Proofs.YtdoadngmgmdlbaaDoor.Sha5
open Go Go.RowKit
open Rely Auto Own
def pat (ps : List (Value×List Int)) (i:Nat):Value×List Int:=ps.getD i (undef,[])
def flat (ps : List (Value×List Int)) (i:Nat):List Int:=((ps.take i).map Prod.snd).flatten
theorem Qhx {ps : List (Value×List Int)} {i:Nat} (h:i<ps.length):pat ps i=ps[i]:=by simp [pat,h]
theorem QkG {ps : List (Value×List Int)} {i:Nat} (h:i<ps.length):pat ps i∈ps:=by rw [Qhx h]; exact List.getElem_mem h
theorem Qqa {ps : List (Value×List Int)} {i:Nat} (h:i<ps.length):(ps.map Prod.fst).toArray[i]? = some (pat ps i).1:=by
  rw [Qhx h]; simp [h]
theorem QhM {ps : List (Value×List Int)} {i:Nat} (h:i<ps.length):flat ps (i+1)=flat ps i++(pat ps i).2:=by
  unfold flat
  rw [List.take_add_one,List.getElem?_eq_getElem h,Qhx h,List.map_append,List.flatten_append]
  show _++[ps[i].2].flatten=_
  rw [List.flatten_singleton]
theorem QhN {ps : List (Value×List Int)} {n:Nat} (h:ps.length=n):flat ps n=(ps.map Prod.snd).flatten:=by
  subst h; simp [flat]
theorem Qpi {ps : List (Value×List Int)} {i:Nat} (h:i<ps.length):(flat ps i).length+(pat ps i).2.length≤((ps.map Prod.snd).flatten).length:=by
  have e:(flat ps (i+1)).length=(flat ps i).length+(pat ps i).2.length:=by rw [QhM h,List.length_append]
  rw [←e]
  have:(ps.map Prod.snd).flatten=flat ps (i+1)++((ps.drop (i+1)).map Prod.snd).flatten:=by
    unfold flat
    rw [←List.flatten_append,←List.map_append,List.take_append_drop]
  rw [this,List.length_append]; omega
theorem QoD (s : S8):s.out.length=64:=rfl
theorem dig_len (t : List Int):(dig t).length=64:=QoD _
theorem QoU (gp n c:Nat) (cs:Array Value) (Tp:TypeId) (ps:List (Value×List Int)) (hn:ps.length=n) (hn9:n≤1000000) (tc tq:TypeId) (w:World) (hc:w.heap[5]? = some (.cells (ints .u64 Qc6) tc)) (hq:w.heap[4]? = some (.cells (ints .u64 Qbc) tq)) (hrow:w.heap[gp]? = some (.cells cs Tp)) (hcs:∀ i,i<ps.length→cs[i]? = some (pat ps i).1) (hps:∀ p∈ps,RdK .u8 w.heap.size p.2 p.1 w∧Qal p.2) (hlen:((ps.map Prod.snd).flatten).length≤900000000):Calls Tryd.prog 41 #[.slice (some ⟨gp,0,none⟩) n c] w (Ret w (.agg (ints .u8 (dig ((ps.map Prod.snd).flatten))))):=by
 refine enter 19 [(0,.slice (some ⟨gp,0,none⟩) n c)] Tryd.func41 rfl rfl kj rfl ?_
 refine wp_seq_k fun K4 hK4=>?_
 refine Qac ?_
 refine Qaj (ints .u8 (List.replicate 64 0)) 30 2 rfl kj kj fun g5 W1 l5 e1 r5_1=>?_
 have x1:Ext w W1:=Ext.tr (Rely.Ext.refl w) e1
 have b5:w.heap.size≤g5:=qT (Rely.Ext.refl w).size l5
 refine Qaf ?_
 refine hK4 _ _ ?_
 refine wp_seq_k fun K6 hK6=>?_
 refine Qac ?_
 have r2_1:=(Qaa hq e1)
 refine Qb6 (fun v W'=>(fun v W=>∃ g,v=.pointer (some ⟨g,0,none⟩)∧W1.heap.size≤g∧HasD g [] W) v W'∧Ext W1 W') 78 #[] 6 rfl kj kj ((newC tq _ r2_1).mono (by rintro e w' ⟨v,rfl,e1,hv⟩; exact ⟨v,rfl,hv,e1⟩)) fun vv7 W2 hh7=>?_
 obtain ⟨hv7,e2⟩:=hh7
 have x2:Ext w W2:=Ext.tr x1 e2
 obtain ⟨gd8,rfl,ld8,hD8⟩:=hv7
 have b8:w.heap.size≤gd8:=qT x1.size ld8
 refine Qab (.pointer (some ⟨gd8,0,none⟩)) 3 rfl kj kj ?_
 refine Qaf ?_
 refine hK6 _ _ ?_
 refine wp_seq_k fun K9 hK9=>?_
 refine wp_seq_k fun K10 hK10=>?_
 refine Qac ?_
 refine Qab (.slice (some ⟨gp,0,none⟩) n c) 7 rfl kj kj ?_
 refine Qab (.int .i64 ((n:Nat):Int)) 8 rfl kj kj ?_
 refine Qab (.int .i64 0) 9 rfl kj kj ?_
 refine Qaf ?_
 refine hK10 _ _ ?_
 refine wp_block ?_
 refine QaI (fun (s1:Nat)=>[(7,.slice (some ⟨gp,0,none⟩) n c),(8,.int .i64 ((n:Nat):Int)),(9,.int .i64 ((s1:Nat):Int)),(3,.pointer (some ⟨gd8,0,none⟩)),(2,.pointer (some ⟨g5,0,none⟩))]) (fun (s1:Nat) W=>(s1≤n)∧(HasD gd8 (flat ps s1) W)∧(Qa7 [gd8] W2 W)∧(Ext w W)) (fun (s1:Nat)=>n-s1) 0 ⟨rfl,rfl,rfl,rfl,rfl,trivial⟩ ⟨(Nat.zero_le _),(show HasD _ (flat ps 0) _ from hD8),(Qa7.refl [gd8] W2),x2⟩ fun s1 X1 V1 hI1=>?_
 obtain ⟨i,hs1⟩:∃ z,z=s1:=⟨_,rfl⟩
 subst hs1
 obtain ⟨hi,hDi,kk1,xx1⟩:=hI1
 replace hi:i≤n:=hi
 replace hDi:HasD gd8 (flat ps i) V1:=hDi
 replace kk1:Qa7 [gd8] W2 V1:=kk1
 replace xx1:Ext w V1:=xx1
 have q3:=kk1
 refine wp_seq_k fun K11 hK11=>?_
 refine Qac ?_
 refine Qab (.bool (decide (((i:Nat):Int)<((n:Nat):Int)))) 10 rfl kj kj ?_
 refine Qaf ?_
 refine hK11 _ _ ?_
 refine wp_seq_k fun K12 hK12=>?_
 refine Qa5 (t:=decide (((i:Nat):Int)<((n:Nat):Int))) kj (fun c13=>?_) (fun c13=>?_)
 ·skip
  have hlt10:i<n:=by have:=of_decide_eq_true c13; omega
  refine wp_skip ?_
  refine hK12 _ _ ?_
  refine wp_seq_k fun K14 hK14=>?_
  refine wp_block ?_
  refine wp_seq_k fun K15 hK15=>?_
  refine Qac ?_
  have hi2:i<ps.length:=by omega
  refine Qab (.pointer (some ⟨gp,i,none⟩)) 11 rfl kj (QaG 63 _ _ .i64 i gp n c 27 rfl kj kj kj kj hlt10) ?_
  have r3_1:=(Qaa hrow e1)
  have r3_2:=(Qaa r3_1 e2)
  have r3_3:=(Qa7.row q3 r3_2 (Qbj (Qad r3_1 ld8) QbI))
  refine Qab ((pat ps i).1) 12 rfl kj (Qb7 27 _ _ ((pat ps i).1) (QaE r3_3 (hcs i hi2)) rfl kj kj) ?_
  refine Qab ((pat ps i).1) 5 rfl kj kj ?_
  refine Qaf ?_
  refine hK15 _ _ ?_
  refine Qac ?_
  refine Qab (.pointer (some ⟨gd8,0,none⟩)) 13 rfl kj kj ?_
  refine Qab ((pat ps i).1) 14 rfl kj kj ?_
  have r1_1:=(Qaa hc e1)
  have r1_2:=(Qaa r1_1 e2)
  have r1_3:=(Qa7.row q3 r1_2 (Qbj (Qad r1_1 ld8) QbI))
  have hp6:=(hps _ (QkG hi2)).1.ext xx1
  have hl6:=Qpi hi2
  refine Qb6 (fun v W'=>v=.tuple #[]∧ExtB gd8 V1 W'∧HasD gd8 ((flat ps i)++(pat ps i).2) W') 79 #[.pointer (some ⟨gd8,0,none⟩),(pat ps i).1] 15 rfl kj kj ((addC gd8 _ _ _ _ tc _ r1_3 (Nat.ne_of_lt (qL (Qa3 hc) b8)) (hp6.nb b8) (hps _ (QkG hi2)).2 (by omega) hDi hp6).mono fun e w' h=>⟨_,h.1,rfl,h.2⟩) fun v W4 h=>?_
  obtain ⟨rfl,q4,hDn⟩:=h
  have x4:Ext w W4:=ExtB.up xx1 q4 b8
  refine Qaf ?_
  refine hK14 _ _ ?_
  refine Qac ?_
  refine Qab (.int .i64 ((i+1:Nat):Int)) 16 rfl kj (Qan (u:=.int .i64 (IntKind.i64.wrap (((i:Nat):Int)+1))) kj (congrArg (Value.int .i64) (i64n _ _ (by omega) (by omega)))) ?_
  refine Qab (.int .i64 ((i+1:Nat):Int)) 9 rfl kj kj ?_
  refine Qaf ?_
  repeat (first | with_reducible refine goX1 ?_ | with_reducible refine goX2 ?_ | with_reducible refine goX3 ?_)
  exact QaA (i+1) ⟨rfl,rfl,rfl,rfl,rfl,trivial⟩ ⟨(by omega),(by rw [QhM hi2]; exact hDn),(Qa7.but q3 q4 (.inl (by simp))),x4⟩ (by omega)
 ·skip
  have heq10:i=n:=by have:=of_decide_eq_false c13; omega
  refine wp_exit ?_
  refine hK9 _ _ ?_
  refine wp_seq_k fun K16 hK16=>?_
  refine Qac ?_
  refine Qab (.pointer (some ⟨gd8,0,none⟩)) 17 rfl kj kj ?_
  have r1_1:=(Qaa hc e1)
  have r1_2:=(Qaa r1_1 e2)
  have r1_3:=(Qa7.row q3 r1_2 (Qbj (Qad r1_1 ld8) QbI))
  refine Qb6 (fun v W'=>v=(.agg (ints .u8 (dig (flat ps i))))∧ExtB gd8 V1 W') 80 #[.pointer (some ⟨gd8,0,none⟩)] 18 rfl kj kj ((sumC gd8 _ tc _ r1_3 (Nat.ne_of_lt (qL (Qa3 hc) b8)) (by rw [heq10,QhN hn]; exact hlen) hDi).mono fun e w' h=>⟨_,h.1,rfl,h.2⟩) fun v W4 h=>?_
  obtain ⟨rfl,q4⟩:=h
  have x4:Ext w W4:=ExtB.up xx1 q4 b8
  have r5_2:=(Qaa r5_1 e2)
  have r5_3:=(Qa7.row q3 r5_2 (Qbj (Qad r5_1 ld8) QbI))
  have r5_4:=(ExtB.row q4 r5_3 (Qad r5_1 ld8))
  refine Qak g5 _ (ints .u8 (dig (flat ps i))) 30 r5_4 rfl kj (Qah 30 _ _ g5 30 _ _ r5_4 rfl kj kj (isz (n:=64) kj ((Qae _ _).trans (dig_len _))) (eqsz (n:=64) ((Qae _ _).trans (qZ (n:=64))) ((Qae _ _).trans (dig_len _))) (ints_one _ _)) fun W5 p5 r5_5=>?_
  have x5:Ext w W5:=Puts.ext p5 x4 b5
  refine Qaf ?_
  refine hK16 _ _ ?_
  refine wp_ret ?_
  repeat (first | with_reducible refine goR1 ?_ | with_reducible refine goR2 ?_)
  exact (show bodyPost _ _ _ .ret _ _ from ret1 (.agg (ints .u8 (dig (flat ps i)))) rfl (QaC g5 30 _ r5_5 kj kj (isz (n:=64) kj ((Qae _ _).trans (dig_len _)))) ⟨by rw [heq10,QhN hn],x5⟩)
theorem Qri (gp n:Nat) (Tp:TypeId) (ps:List (Value×List Int)) (hn:ps.length=n) (hn9:n≤1000000) (tc tq:TypeId) (w:World) (hc:w.heap[5]? = some (.cells (ints .u64 Qc6) tc)) (hq:w.heap[4]? = some (.cells (ints .u64 Qbc) tq)) (hrow:w.heap[gp]? = some (.cells (ps.map Prod.fst).toArray Tp)) (hps:∀ p∈ps,RdK .u8 w.heap.size p.2 p.1 w∧Qal p.2) (hlen:((ps.map Prod.snd).flatten).length≤900000000):Calls Tryd.prog 41 #[.slice (some ⟨gp,0,none⟩) n n] w (Ret w (.agg (ints .u8 (dig ((ps.map Prod.snd).flatten))))) :=
  QoU gp n n _ Tp ps hn hn9 tc tq w hc hq hrow (fun i h=>Qqa h) hps hlen
end Go.Proofs.YtdoadngmgmdlbaaDoor.Sha5
end
section
namespace Go.Proofs.YtdoadngmgmdlbaaDoor.Sha5
open Go Go.RowKit
open Rely Auto Own
theorem Qez {k : IntKind} {B:Nat} {ys:List Int} {a:Option Addr} {n c:Nat} {W:World} (h:RdK k B ys (.slice a n c) W) (h0:0<ys.length):∃ g o,a=some ⟨g,o,none⟩∧g<B∧∀ i,i<ys.length→W.cell? ⟨g,o+i,none⟩=some (.int k (nth ys i)):=by
  obtain ⟨a',cap',e,h2,h3,h4,h5⟩:=h
  simp only [Value.slice.injEq] at e
  obtain ⟨rfl,-,-⟩:=e
  rcases h5 with h5 | ⟨g,o,q1,q2,q3,q4⟩
  · rw [h5] at h0; simp at h0
  · exact ⟨g,o,q1,q2,q4⟩
theorem QqF (w : World):Calls Tryd.prog 52 #[] w (QfT w (fun v W=>∃ g,v=.slice (some ⟨g,0,none⟩) 8 8∧w.heap.size≤g∧W.heap[g]? = some (.cells (ints .u64 Qbc) 46))):=by
  refine enter 2 [] Tryd.func52 rfl rfl kj rfl ?_
  refine wp_seq_k fun K1 hK1=>?_
  refine Qac ?_
  refine Qab (.slice none 0 0) 0 rfl kj kj ?_
  refine Qaf ?_
  refine hK1 _ _ ?_
  refine wp_seq_k fun K2 hK2=>?_
  refine Qac ?_
  refine QaR (ints .u64 Qbc) 46 8 1 rfl kj kj fun g3 W1 l3 e1 r3_1=>?_
  have x1:Ext w W1:=Ext.tr (Rely.Ext.refl w) e1
  have b3:w.heap.size≤g3:=qT (Rely.Ext.refl w).size l3
  refine Qab (.slice (some ⟨g3,0,none⟩) 8 8) 0 rfl kj kj ?_
  refine Qaf ?_
  refine hK2 _ _ ?_
  refine wp_ret ?_
  repeat (first | with_reducible refine goR1 ?_ | with_reducible refine goR2 ?_)
  exact (show bodyPost _ _ _ .ret _ _ from ret1 (.slice (some ⟨g3,0,none⟩) 8 8) rfl (Qbr kj) ⟨_,rfl,x1,_,rfl,b3,r3_1⟩)
theorem Qq1 (w : World):Calls Tryd.prog 53 #[] w (QfT w (fun v W=>∃ g,v=.slice (some ⟨g,0,none⟩) 80 80∧w.heap.size≤g∧W.heap[g]? = some (.cells (ints .u64 Qc6) 46))):=by
  refine enter 2 [] Tryd.func53 rfl rfl kj rfl ?_
  refine wp_seq_k fun K1 hK1=>?_
  refine Qac ?_
  refine Qab (.slice none 0 0) 0 rfl kj kj ?_
  refine Qaf ?_
  refine hK1 _ _ ?_
  refine wp_seq_k fun K2 hK2=>?_
  refine Qac ?_
  refine QaR (ints .u64 Qc6) 46 80 1 rfl kj kj fun g3 W1 l3 e1 r3_1=>?_
  have x1:Ext w W1:=Ext.tr (Rely.Ext.refl w) e1
  have b3:w.heap.size≤g3:=qT (Rely.Ext.refl w).size l3
  refine Qab (.slice (some ⟨g3,0,none⟩) 80 80) 0 rfl kj kj ?_
  refine Qaf ?_
  refine hK2 _ _ ?_
  refine wp_ret ?_
  repeat (first | with_reducible refine goR1 ?_ | with_reducible refine goR2 ?_)
  exact (show bodyPost _ _ _ .ret _ _ from ret1 (.slice (some ⟨g3,0,none⟩) 80 80) rfl (Qbr kj) ⟨_,rfl,x1,_,rfl,b3,r3_1⟩)
section
variable {P : Program} {ρ : Operand → Value} {o : Oper} {w : World}
theorem Qc9 (t : TypeId) (x y:Operand) (k:IntKind) (n g off len cap:Nat) (e:TypeId) (a:Option Addr) (z:Int) (ha:a=some ⟨g,off,none⟩) (hz:z=(n:Int)) (ho:o.op=.indexAddr t x y) (hx:ρ x=.slice a len cap) (hy:ρ y=.int k z)
    (hu:P.underlying t=some (.slice e)) (hs:(P.info? e).map (·.size)=some 1) (hn:n<len):(execOp ρ o).run P w=.ok (.value (.pointer (some ⟨g,off+n,none⟩))) w:=by
  subst ha; subst hz
  exact QdN t x y k n g off len cap e ho hx hy hu hs hn
end
section
variable {ds : List Deferred} {P : Program} {ops : Array Oper} {Q : Exit → Act → World → Prop} {rest : List Oper} {o : Oper} {N : Nat} {L : Env} {W : World}
theorem Qij {k : IntKind} {T:TypeId} (b:Nat) (s x:Operand) (t:TypeId) (ho:o.op=.call { callee:=.builtin .append,args:=#[s,x],argTypes:=#[t,t] })
    (ht:P.underlying t=some (.slice T)) (hi:(P.info? T).map (fun i=>(i.zero,i.size,i.bytes))=some (some (.int k 0),1,b)) (hb8:b≤8) (d:Nat) (hd:o.dst=some d) (hg:QcL ops o N L=some true) {B:Nat} {v y:Value} {xs ys:List Int} {V:World}
    (hs:Rely.look (envN N L) s=v) (hx:Rely.look (envN N L) x=y)
    (h:OwnN k T V.heap.size xs v W) (hy:RdK k B ys y W) {g9:Nat} (hl:g9<W.heap.size) (hne:v.ownBlock≠some g9) (hn:xs.length+ys.length≤1000000000) (hV:Ext V W)
    (kk:∀ (u:Value) (W':World),OwnN k T V.heap.size (xs++ys) u W'→Ext V W'→Below V.heap.size W W'→(u.ownBlock≠some g9∧g9<W'.heap.size∧W'.heap[g9]? = W.heap[g9]?)→WL P ops Q rest (Qa4 ds N ((d,u)::L)) W'):WL P ops Q (o::rest) (Qa4 ds N L) W:=by
  obtain ⟨v',W',h1,h2,h3,h4⟩:=QgZ (ρ:=Rely.look (envN N L)) (o:=o) (W:=W) s x t ho ht hi hb8 hs hx h hy hn hV.size
  refine QcD _ _ d hd hg h1 (kk v' W' h2 (Qlr hV h h3) ⟨h3.os,h3.tape,h3.output,h3.size,fun i hi=>h3.block i (qL hi hV.size) (fun q=>by have:=h.ge q.symm; omega)⟩ ⟨?_,qL hl h3.size,h3.block g9 hl (fun q=>hne q.symm)⟩)
  rcases h4 with h4 | h4
  · rw [h4]; exact hne
  · rw [h4]; intro e; have:=Option.some.inj e; omega
end
def leP (n j:Nat):List Int:=(List.range j).map fun i=>((8*n/256^i%256:Nat):Int)
theorem QfC (n j:Nat):(leP n j).length=j:=by simp [leP]
theorem QmI (n j:Nat):leP n (j+1)=leP n j++[((8*n/256^j%256:Nat):Int)]:=by simp [leP,List.range_succ]
theorem QoY (n j k:Nat) (h:k<j):nth (leP n j) k=((8*n/256^k%256:Nat):Int):=by simp [leP,nth,h]
theorem Qrj (n j:Nat) (hn:n≤1000000000) (h:j<16):nth (leP n 16) (15-j)=nth (be16 (8*n)) j:=by
  rw [QoY n 16 (15-j) (by omega)]
  rcases Nat.lt_or_ge j 8 with q | q
  · rw [Qq7 n (15-j) hn (by omega)]
    rcases (show j=0∨j=1∨j=2∨j=3∨j=4∨j=5∨j=6∨j=7 by omega) with rfl | rfl | rfl | rfl | rfl | rfl | rfl | rfl <;> rfl
  · rcases (show j=8∨j=9∨j=10∨j=11∨j=12∨j=13∨j=14∨j=15 by omega) with rfl | rfl | rfl | rfl | rfl | rfl | rfl | rfl <;> rfl
theorem Qp0 (m j:Nat) (h:j<16):(be16 m).take (j+1)=(be16 m).take j++[nth (be16 m) j]:=by
  rcases (show j=0∨j=1∨j=2∨j=3∨j=4∨j=5∨j=6∨j=7∨j=8∨j=9∨j=10∨j=11∨j=12∨j=13∨j=14∨j=15 by omega) with rfl | rfl | rfl | rfl | rfl | rfl | rfl | rfl | rfl | rfl | rfl | rfl | rfl | rfl | rfl | rfl <;> rfl
theorem Qmd (t : List Int) (i:Nat):t++128::List.replicate (i+1) (0:Int)=(t++128::List.replicate i 0)++[0]:=by
  rw [List.append_assoc,List.cons_append,List.replicate_succ']
theorem Qmo (t : List Int) (i:Nat) (h:i≤fillN t.length):((((t++128::List.replicate i (0:Int)).length%128:Nat):Int) != 112)=decide (i<fillN t.length):=by
  have hl:(t++128::List.replicate i (0:Int)).length=t.length+(i+1):=by simp
  rw [hl]
  unfold fillN at *
  by_cases h2:i<(128-(t.length+17)%128)%128
  · rw [decide_eq_true h2,bne_iff_ne]; omega
  · rw [decide_eq_false h2,bne_eq_false_iff_eq]; omega
theorem QoX (n j:Nat):decide ((((leP n j).length:Nat):Int)<16)=decide (j<16):=by
  rw [QfC]
  exact decide_eq_decide.2 (by omega)
theorem Qph (j : Nat) (h:j≤16):decide ((15:Int)-((j:Nat):Int)≥0)=decide (j<16):=decide_eq_decide.2 (by omega)
theorem Qrk (j : Nat) (h:j≤16):IntKind.i64.wrap ((15:Int)-((j:Nat):Int)-1)=(15:Int)-((j+1:Nat):Int):=by
  rw [show (15:Int)-((j:Nat):Int)-1=(15:Int)-((j+1:Nat):Int) by omega]
  exact IntWalk.i64_in _ (by omega)
theorem le_0 (n : Nat):IntKind.u8.wrap ((n%32*8:Nat):Int)=((8*n/256^0%256:Nat):Int):=by
  rw [Qpx,Nat.pow_zero,Nat.div_one]; omega
theorem le_j (m : Nat):IntKind.u8.wrap ((m%256:Nat):Int)=((m%256:Nat):Int):=by rw [Qpx]; omega
theorem q_1 (n : Nat):8*n/256^1=n/32:=by rw [Nat.pow_one]; omega
theorem q_j (m j:Nat):m/256^j/256=m/256^(j+1):=by rw [Nat.div_div_eq_div_mul,Nat.pow_succ]
theorem Qo8 (t : List Int):(t++128::List.replicate (fillN t.length) (0:Int))++(be16 (8*t.length)).take 16=padT t:=by
  rw [List.append_assoc,List.cons_append]
  rfl
theorem padC (t : List Int) (v:Value) (B:Nat) (w:World) (hlen:t.length≤900000000) (hr:RdK .u8 B t v w):Calls Tryd.prog 54 #[v,.int .i64 128,.int .i64 16] w (QfT w (OwnN .u8 5 w.heap.size (padT t))):=by
 obtain ⟨a_t,c_t,rfl,-⟩:=id hr
 have hF:fillN t.length<128:=by unfold fillN; omega
 refine enter 62 [(0,.slice a_t t.length c_t),(1,.int .i64 128),(2,.int .i64 16)] Tryd.func54 rfl rfl kj rfl ?_
 refine wp_seq_k fun K1 hK1=>?_
 refine Qac ?_
 refine Qab (.slice none 0 0) 6 rfl kj kj ?_
 refine Qaf ?_
 refine hK1 _ _ ?_
 refine wp_seq_k fun K2 hK2=>?_
 refine Qac ?_
 refine QaR (ints .u8 ([])) 5 0 11 rfl kj kj fun g3 W1 l3 e1 r3_1=>?_
 have x1:Ext w W1:=Ext.tr (Rely.Ext.refl w) e1
 have b3:w.heap.size≤g3:=qT (Rely.Ext.refl w).size l3
 refine Qab (.slice a_t t.length c_t) 12 rfl kj kj ?_
 have y0_1:Ext w W1:=(Rely.Ext.trans (Rely.Ext.refl w) e1)
 refine QbZ (k:=.u8) (T:=5) (xs:=[]) (ys:=t) (V:=w) 1 (.tmp 11) (.tmp 12) 27 rfl kj kj (by decide) 13 rfl kj kj kj (Qe4 (xs:=[]) rfl l3 r3_1 (by decide)) (RdK.ext hr x1) (by simp; omega) y0_1 fun z1 W2 f4 y2 l2=>?_
 have x2:Ext w W2:=Ext.low x1 l2 (Rely.Ext.refl w).size
 refine QaR (ints .u8 ([128])) 5 1 14 rfl kj kj fun g6 W3 l6 e3 r6_3=>?_
 have x3:Ext w W3:=Ext.tr x2 e3
 have b6:w.heap.size≤g6:=qT x2.size l6
 have f7_3:=(f4.ext e3)
 have y0_3:Ext w W3:=(Rely.Ext.trans y2 e3)
 refine QbZ (k:=.u8) (T:=5) (xs:=[]++t) (ys:=[128]) (V:=w) 1 (.tmp 13) (.tmp 14) 27 rfl kj kj (by decide) 15 rfl kj kj kj f7_3 (Qcc (xs:=[128]) (n:=1) rfl r6_3 (Qa3 r6_3) (show 1≤maxLen from by decide)) (by simp; omega) y0_3 fun z2 W4 f8 y4 l4=>?_
 have x4:Ext w W4:=Ext.low x3 l4 (Rely.Ext.refl w).size
 refine Qab (z2) 7 rfl kj kj ?_
 refine Qaf ?_
 refine hK2 _ _ ?_
 refine wp_seq_k fun K10 hK10=>?_
 refine wp_block ?_
 refine QaI (fun (s1:Nat×Value)=>[(0,.slice a_t t.length c_t),(1,.int .i64 128),(2,.int .i64 16),(7,s1.2)]) (fun (s1:Nat×Value) W=>(s1.1≤fillN t.length)∧(OwnN .u8 5 w.heap.size (t++128::List.replicate s1.1 0) s1.2 W)∧(Ext w W)) (fun (s1:Nat×Value)=>fillN t.length-s1.1) (0,z2) ⟨rfl,rfl,rfl,rfl,trivial⟩ ⟨(Nat.zero_le _),(by have h:=f8; simpa using h),x4⟩ fun s1 X1 V1 hI1=>?_
 obtain ⟨i,u⟩:=s1
 obtain ⟨hi,hu,xx1⟩:=hI1
 replace hi:i≤fillN t.length:=hi
 replace hu:OwnN .u8 5 w.heap.size (t++128::List.replicate i 0) u V1:=hu
 replace xx1:Ext w V1:=xx1
 obtain ⟨a7,c7,rfl,-⟩:=id (OwnN.rd hu)
 refine wp_seq_k fun K11 hK11=>?_
 refine wp_seq_k fun K12 hK12=>?_
 refine Qac ?_
 refine Qab (.slice a7 ((t++128::List.replicate i 0).length) c7) 16 rfl kj kj ?_
 refine Qab (.int .i64 (((t++128::List.replicate i 0).length:Nat):Int)) 17 rfl kj kj ?_
 refine Qab (.int .i64 128) 18 rfl kj kj ?_
 refine Qab (.int .i64 ((((t++128::List.replicate i 0).length)%128:Nat):Int)) 19 rfl kj (Qan (u:=.int .i64 (Int.tmod ((((t++128::List.replicate i 0).length:Nat):Int)) (128))) kj (congrArg (Value.int .i64) (QcU _ 128))) ?_
 refine Qab (.int .i64 128) 20 rfl kj kj ?_
 refine Qab (.int .i64 16) 21 rfl kj kj ?_
 refine Qab (.int .i64 112) 22 rfl kj kj ?_
 refine Qab (.bool (decide (i<fillN t.length))) 23 rfl kj (Qan (u:=.bool ((((((t++128::List.replicate i 0).length)%128:Nat):Int) != 112))) kj (congrArg Value.bool (Qmo t i hi))) ?_
 refine Qaf ?_
 refine hK12 _ _ ?_
 refine Qa5 (t:=decide (i<fillN t.length)) kj (fun c13=>?_) (fun c13=>?_)
 ·skip
  have hlt23:i<fillN t.length:=by have:=of_decide_eq_true c13; omega
  refine wp_skip ?_
  refine hK11 _ _ ?_
  refine wp_block ?_
  refine Qac ?_
  refine Qab (.slice a7 ((t++128::List.replicate i 0).length) c7) 24 rfl kj kj ?_
  refine QaR (ints .u8 ([0])) 5 1 25 rfl kj kj fun g14 W6 l14 e6 r14_6=>?_
  have x6:Ext w W6:=Ext.tr xx1 e6
  have b14:w.heap.size≤g14:=qT xx1.size l14
  have f15_6:=(hu.ext e6)
  have y0_6:Ext w W6:=(Rely.Ext.trans xx1 e6)
  refine QbZ (k:=.u8) (T:=5) (xs:=t++128::List.replicate i 0) (ys:=[0]) (V:=w) 1 (.tmp 24) (.tmp 25) 27 rfl kj kj (by decide) 26 rfl kj kj kj f15_6 (Qcc (xs:=[0]) (n:=1) rfl r14_6 (Qa3 r14_6) (show 1≤maxLen from by decide)) (by simp; omega) y0_6 fun z3 W7 f16 y7 l7=>?_
  have x7:Ext w W7:=Ext.low x6 l7 (Rely.Ext.refl w).size
  refine Qab (z3) 7 rfl kj kj ?_
  refine Qaf ?_
  repeat (first | with_reducible refine goX1 ?_ | with_reducible refine goX2 ?_ | with_reducible refine goX3 ?_)
  exact QaA ((i+1),z3) ⟨rfl,rfl,rfl,rfl,trivial⟩ ⟨(by omega),(by rw [Qmd]; exact f16),x7⟩ (by show fillN t.length-(i+1)<fillN t.length-i; omega)
 ·skip
  have heq23:i=fillN t.length:=by have:=of_decide_eq_false c13; omega
  subst heq23
  refine wp_exit ?_
  refine hK10 _ _ ?_
  refine wp_seq_k fun K18 hK18=>?_
  refine Qac ?_
  refine Qab (.slice a_t t.length c_t) 27 rfl kj kj ?_
  refine Qab (.int .i64 ((t.length:Nat):Int)) 28 rfl kj kj ?_
  refine Qab (.int .i64 ((t.length:Nat):Int)) 8 rfl kj kj ?_
  refine Qaf ?_
  refine hK18 _ _ ?_
  refine wp_seq_k fun K19 hK19=>?_
  refine Qac ?_
  refine Qab (.int .i64 ((t.length:Nat):Int)) 29 rfl kj kj ?_
  refine Qab (.int .i64 ((t.length%32:Nat):Int)) 30 rfl kj (Qan (u:=.int .i64 (Int.tmod (((t.length:Nat):Int)) (32))) kj (congrArg (Value.int .i64) (QcU _ 32))) ?_
  refine Qab (.int .i64 (((t.length%32)*8:Nat):Int)) 31 rfl kj (Qan (u:=.int .i64 (IntKind.i64.wrap (((t.length%32:Nat):Int)*8))) kj (congrArg (Value.int .i64) (i64n _ _ (by omega) (by omega)))) ?_
  refine Qab (.int .u8 (((8*t.length/256^0%256:Nat):Int))) 32 rfl kj (Qan (u:=.int .u8 (IntKind.u8.wrap (((t.length%32)*8:Nat):Int))) kj (congrArg (Value.int .u8) (le_0 _))) ?_
  refine QaR (ints .u8 ([(((8*t.length/256^0%256:Nat):Int))])) 5 1 33 rfl kj kj fun g20 W6 l20 e6 r20_6=>?_
  have x6:Ext w W6:=Ext.tr xx1 e6
  have b20:w.heap.size≤g20:=qT xx1.size l20
  refine Qab (.slice (some ⟨g20,0,none⟩) 1 1) 9 rfl kj kj ?_
  refine Qaf ?_
  refine hK19 _ _ ?_
  refine wp_seq_k fun K21 hK21=>?_
  refine Qac ?_
  refine Qab (.int .i64 ((t.length:Nat):Int)) 34 rfl kj kj ?_
  refine Qab (.int .i64 ((t.length/32:Nat):Int)) 35 rfl kj (Qan (u:=.int .i64 (IntKind.i64.wrap (Int.tdiv (((t.length:Nat):Int)) (32)))) kj (congrArg (Value.int .i64) (QeR _ 32 (by omega)))) ?_
  refine Qab (.int .i64 ((t.length/32:Nat):Int)) 8 rfl kj kj ?_
  refine Qaf ?_
  refine hK21 _ _ ?_
  refine wp_seq_k fun K22 hK22=>?_
  refine wp_block ?_
  have f23_6:=(hu.ext e6)
  have y5_6:Ext V1 W6:=(Rely.Ext.trans (Rely.Ext.refl V1) e6)
  refine QaI (fun (s2:Nat×Value)=>[(0,.slice a_t t.length c_t),(1,.int .i64 128),(2,.int .i64 16),(7,.slice a7 ((t++128::List.replicate (fillN t.length) 0).length) c7),(8,.int .i64 ((8*t.length/256^s2.1:Nat):Int)),(9,s2.2)]) (fun (s2:Nat×Value) W=>(1≤s2.1)∧(s2.1≤16)∧(OwnN .u8 5 w.heap.size (t++128::List.replicate (fillN t.length) 0) (.slice a7 ((t++128::List.replicate (fillN t.length) 0).length) c7) W)∧(OwnN .u8 5 V1.heap.size (leP t.length s2.1) s2.2 W)∧(Ext V1 W)∧(Ext w W)) (fun (s2:Nat×Value)=>16-s2.1) (1,.slice (some ⟨g20,0,none⟩) 1 1) ⟨rfl,rfl,rfl,rfl,(congrArg (fun z:Nat=>Value.int .i64 (z:Int)) (q_1 _).symm),rfl,trivial⟩ ⟨(qR _),(show (1:Nat)≤16 by decide),f23_6,(Qe4 (xs:=leP t.length 1) rfl l20 r20_6 (by decide)),y5_6,x6⟩ fun s2 X2 V2 hI2=>?_
  obtain ⟨j,u⟩:=s2
  obtain ⟨hj1,hj,h7,hu9,hv9,xx2⟩:=hI2
  replace hj1:1≤j:=hj1
  replace hj:j≤16:=hj
  replace h7:OwnN .u8 5 w.heap.size (t++128::List.replicate (fillN t.length) 0) (.slice a7 ((t++128::List.replicate (fillN t.length) 0).length) c7) V2:=h7
  replace hu9:OwnN .u8 5 V1.heap.size (leP t.length j) u V2:=hu9
  replace hv9:Ext V1 V2:=hv9
  replace xx2:Ext w V2:=xx2
  obtain ⟨a9,c9,rfl,-⟩:=id (OwnN.rd hu9)
  have hq8:8*t.length/256^j≤16000000000:=qT (Nat.div_le_self _ _) (by omega)
  refine wp_seq_k fun K24 hK24=>?_
  refine wp_seq_k fun K25 hK25=>?_
  refine Qac ?_
  refine Qab (.slice a9 ((leP t.length j).length) c9) 36 rfl kj kj ?_
  refine Qab (.int .i64 (((leP t.length j).length:Nat):Int)) 37 rfl kj kj ?_
  refine Qab (.int .i64 16) 38 rfl kj kj ?_
  refine Qab (.bool (decide (j<16))) 39 rfl kj (Qan (u:=.bool (decide ((((leP t.length j).length:Nat):Int)<16))) kj (congrArg Value.bool (QoX _ _))) ?_
  refine Qaf ?_
  refine hK25 _ _ ?_
  refine Qa5 (t:=decide (j<16)) kj (fun c26=>?_) (fun c26=>?_)
  ·skip
   have hlt39:j<16:=by have:=of_decide_eq_true c26; omega
   refine wp_skip ?_
   refine hK24 _ _ ?_
   refine wp_block ?_
   refine wp_seq_k fun K27 hK27=>?_
   refine Qac ?_
   refine Qab (.slice a9 ((leP t.length j).length) c9) 40 rfl kj kj ?_
   refine Qab (.int .i64 ((8*t.length/256^j:Nat):Int)) 41 rfl kj kj ?_
   refine Qab (.int .i64 (((8*t.length/256^j)%256:Nat):Int)) 42 rfl kj (Qan (u:=.int .i64 (Int.tmod (((8*t.length/256^j:Nat):Int)) (256))) kj (congrArg (Value.int .i64) (QcU _ 256))) ?_
   refine Qab (.int .u8 (((8*t.length/256^j%256:Nat):Int))) 43 rfl kj (Qan (u:=.int .u8 (IntKind.u8.wrap (((8*t.length/256^j)%256:Nat):Int))) kj (congrArg (Value.int .u8) (le_j _))) ?_
   refine QaR (ints .u8 ([(((8*t.length/256^j%256:Nat):Int))])) 5 1 44 rfl kj kj fun g28 W8 l28 e8 r28_8=>?_
   have x8:Ext w W8:=Ext.tr xx2 e8
   have b28:w.heap.size≤g28:=qT xx2.size l28
   have f29_8:=(hu9.ext e8)
   have y5_8:Ext V1 W8:=(Rely.Ext.trans hv9 e8)
   refine QbZ (k:=.u8) (T:=5) (xs:=leP t.length j) (ys:=[(((8*t.length/256^j%256:Nat):Int))]) (V:=V1) 1 (.tmp 40) (.tmp 44) 27 rfl kj kj (by decide) 45 rfl kj kj kj f29_8 (Qcc (xs:=[(((8*t.length/256^j%256:Nat):Int))]) (n:=1) rfl r28_8 (Qa3 r28_8) (show 1≤maxLen from by decide)) (by rw [QfC]; show _+1≤_; omega) y5_8 fun z4 W9 f30 y9 l9=>?_
   have x9:Ext w W9:=Ext.low x8 l9 xx1.size
   refine Qab (z4) 9 rfl kj kj ?_
   refine Qaf ?_
   refine hK27 _ _ ?_
   refine Qac ?_
   refine Qab (.int .i64 ((8*t.length/256^j:Nat):Int)) 46 rfl kj kj ?_
   refine Qab (.int .i64 (((8*t.length/256^j)/256:Nat):Int)) 47 rfl kj (Qan (u:=.int .i64 (IntKind.i64.wrap (Int.tdiv (((8*t.length/256^j:Nat):Int)) (256)))) kj (congrArg (Value.int .i64) (QeR _ 256 (by omega)))) ?_
   refine Qab (.int .i64 (((8*t.length/256^j)/256:Nat):Int)) 8 rfl kj kj ?_
   refine Qaf ?_
   have f32_8:=(h7.ext e8)
   have f33_9:=(OwnN.low (n:=0) f32_8 hu l9)
   repeat (first | with_reducible refine goX1 ?_ | with_reducible refine goX2 ?_ | with_reducible refine goX3 ?_)
   exact QaA ((j+1),z4) ⟨rfl,rfl,rfl,rfl,(congrArg (fun z:Nat=>Value.int .i64 (z:Int)) (q_j _ _)),rfl,trivial⟩ ⟨(by omega),(by omega),f33_9,(by rw [QmI]; exact f30),y9,x9⟩ (by show 16-(j+1)<16-j; omega)
  ·skip
   have heq39:j=16:=by have:=of_decide_eq_false c26; omega
   subst heq39
   refine wp_exit ?_
   refine hK22 _ _ ?_
   refine wp_seq_k fun K34 hK34=>?_
   refine wp_seq_k fun K35 hK35=>?_
   refine Qac ?_
   refine Qab (.int .i64 16) 48 rfl kj kj ?_
   refine Qab (.int .i64 15) 49 rfl kj kj ?_
   refine Qab (.int .i64 15) 10 rfl kj kj ?_
   refine Qaf ?_
   refine hK35 _ _ ?_
   refine wp_block ?_
   obtain ⟨g9,o9,ha9,hl0,hc0⟩:=Qez (OwnN.rd hu9) (by rw [QfC]; decide)
   have hne0:(Value.slice a7 (t++128::List.replicate (fillN t.length) 0).length c7).ownBlock≠some g9:=fun e=>by
    have h1:=OwnN.lt hu e
    have h2:=OwnN.ge hu9 (g:=g9) (by rw [ha9]; rfl)
    omega
   refine QaI (fun (s3:Nat×Value)=>[(7,s3.2),(9,.slice a9 ((leP t.length 16).length) c9),(10,.int .i64 ((15:Int)-((s3.1:Nat):Int)))]) (fun (s3:Nat×Value) W=>(s3.1≤16)∧(OwnN .u8 5 w.heap.size (t++128::List.replicate (fillN t.length) 0++(be16 (8*t.length)).take s3.1) s3.2 W)∧(g9<W.heap.size)∧(s3.2.ownBlock≠some g9)∧(∀ i,i<(leP t.length 16).length→W.cell? ⟨g9,o9+i,none⟩=some (.int .u8 (nth (leP t.length 16) i)))∧(Ext w W)) (fun (s3:Nat×Value)=>16-s3.1) (0,.slice a7 ((t++128::List.replicate (fillN t.length) 0).length) c7) ⟨rfl,rfl,rfl,trivial⟩ ⟨(Nat.zero_le _),(by rw [List.take_zero,List.append_nil]; exact h7),hl0,hne0,hc0,xx2⟩ fun s3 X3 V3 hI3=>?_
   obtain ⟨j,u⟩:=s3
   obtain ⟨hj,hu,hl,hne,hcl,xx3⟩:=hI3
   replace hj:j≤16:=hj
   replace hu:OwnN .u8 5 w.heap.size (t++128::List.replicate (fillN t.length) 0++(be16 (8*t.length)).take j) u V3:=hu
   replace hl:g9<V3.heap.size:=hl
   replace hne:u.ownBlock≠some g9:=hne
   replace hcl:∀ i,i<(leP t.length 16).length→V3.cell? ⟨g9,o9+i,none⟩=some (.int .u8 (nth (leP t.length 16) i)):=hcl
   replace xx3:Ext w V3:=xx3
   refine wp_seq_k fun K36 hK36=>?_
   refine wp_seq_k fun K37 hK37=>?_
   refine Qac ?_
   refine Qab (.int .i64 ((15:Int)-((j:Nat):Int))) 50 rfl kj kj ?_
   refine Qab (.bool (decide (j<16))) 51 rfl kj (Qan (u:=.bool (decide (((15:Int)-((j:Nat):Int))≥0))) kj (congrArg Value.bool (Qph j hj))) ?_
   refine Qaf ?_
   refine hK37 _ _ ?_
   refine Qa5 (t:=decide (j<16)) kj (fun c38=>?_) (fun c38=>?_)
   ·skip
    have hlt51:j<16:=by have:=of_decide_eq_true c38; omega
    refine wp_skip ?_
    refine hK36 _ _ ?_
    refine wp_seq_k fun K39 hK39=>?_
    refine wp_block ?_
    refine Qac ?_
    refine Qab (u) 54 rfl kj kj ?_
    refine Qab (.slice a9 ((leP t.length 16).length) c9) 55 rfl kj kj ?_
    refine Qab (.int .i64 ((15:Int)-((j:Nat):Int))) 56 rfl kj kj ?_
    refine Qab (.pointer (some ⟨g9,o9+(15-j),none⟩)) 57 rfl kj (Qc9 27 _ _ .i64 (15-j) g9 o9 (leP t.length 16).length c9 5 a9 ((15:Int)-((j:Nat):Int)) ha9 (by omega) rfl kj kj kj kj (by rw [QfC]; omega)) ?_
    refine Qab (.int .u8 (nth (be16 (8*t.length)) j)) 58 rfl kj (Qb7 5 _ _ (.int .u8 (nth (be16 (8*t.length)) j)) ((hcl (15-j) (by rw [QfC]; omega)).trans (congrArg (fun z=>some (Value.int .u8 z)) (Qrj _ j (by omega) hlt51))) rfl kj kj) ?_
    refine QaR (ints .u8 ([(nth (be16 (8*t.length)) j)])) 5 1 59 rfl kj kj fun g40 W9 l40 e9 r40_9=>?_
    have x9:Ext w W9:=Ext.tr xx3 e9
    have b40:w.heap.size≤g40:=qT xx3.size l40
    have hl4:=qL hl e9.size
    have hb4:=e9.block g9 hl
    have f41_9:=(hu.ext e9)
    have y0_9:Ext w W9:=(Rely.Ext.trans xx3 e9)
    refine Qij (k:=.u8) (T:=5) (xs:=t++128::List.replicate (fillN t.length) 0++(be16 (8*t.length)).take j) (ys:=[(nth (be16 (8*t.length)) j)]) (V:=w) 1 (.tmp 54) (.tmp 59) 27 rfl kj kj (by decide) 60 rfl kj kj kj f41_9 (Qcc (xs:=[(nth (be16 (8*t.length)) j)]) (n:=1) rfl r40_9 (Qa3 r40_9) (show 1≤maxLen from by decide)) hl4 hne (by simp [be16,be8]; unfold fillN; omega) y0_9 fun z5 W10 f42 y10 l10 hP=>?_
    have x10:Ext w W10:=Ext.low x9 l10 (Rely.Ext.refl w).size
    refine Qab (z5) 7 rfl kj kj ?_
    refine Qaf ?_
    refine hK39 _ _ ?_
    refine Qac ?_
    refine Qab (.int .i64 ((15:Int)-((j:Nat):Int))) 52 rfl kj kj ?_
    refine Qab (.int .i64 ((15:Int)-((j+1:Nat):Int))) 53 rfl kj (Qan (u:=.int .i64 (IntKind.i64.wrap (((15:Int)-((j:Nat):Int))-1))) kj (congrArg (Value.int .i64) (Qrk j (by omega)))) ?_
    refine Qab (.int .i64 ((15:Int)-((j+1:Nat):Int))) 10 rfl kj kj ?_
    refine Qaf ?_
    repeat (first | with_reducible refine goX1 ?_ | with_reducible refine goX2 ?_ | with_reducible refine goX3 ?_)
    exact QaA ((j+1),z5) ⟨rfl,rfl,rfl,trivial⟩ ⟨(by omega),(by rw [Qp0 _ _ hlt51,←List.append_assoc]; exact f42),hP.2.1,hP.1,(fun i hi=>(World.cell?_of_block (hP.2.2.trans hb4)).trans (hcl i hi)),x10⟩ (by show 16-(j+1)<16-j; omega)
   ·skip
    have heq51:j=16:=by have:=of_decide_eq_false c38; omega
    subst heq51
    refine wp_exit ?_
    refine hK34 _ _ ?_
    refine wp_seq_k fun K44 hK44=>?_
    refine Qac ?_
    refine Qab (u) 61 rfl kj kj ?_
    refine Qab (u) 6 rfl kj kj ?_
    refine Qaf ?_
    refine hK44 _ _ ?_
    refine wp_ret ?_
    repeat (first | with_reducible refine goR1 ?_ | with_reducible refine goR2 ?_)
    exact (show bodyPost _ _ _ .ret _ _ from ret1 (u) rfl (Qbr kj) ⟨_,rfl,xx3,Qo8 t▸hu⟩)
end Go.Proofs.YtdoadngmgmdlbaaDoor.Sha5
end
section
namespace Go.Proofs.YtdoadngmgmdlbaaDoor.Sha5
open Go Go.RowKit
open Rely Auto Own
theorem QnD {v : Value}:∀ c∈([]:List Nat),v.ownBlock≠some c:=fun _ h=>by simp at h
theorem QkT {v : Value} {g:Nat} {gs:List Nat} (h:v.ownBlock≠some g) (h2:∀ c∈gs,v.ownBlock≠some c):∀ c∈g::gs,v.ownBlock≠some c:=fun c hc=>by
  rcases List.mem_cons.1 hc with e | e
  · rw [e]; exact h
  · exact h2 c e
theorem OwnN.keepsL {k : IntKind} {T:TypeId} {base:Nat} {gs:List Nat} {xs:List Int} {v:Value} {V W:World} (h:OwnN k T base xs v V) (q:Qa7 gs V W) (hn:∀ c∈gs,v.ownBlock≠some c):OwnN k T base xs v W :=
  h.keep fun g hg=>q.block g (h.lt hg) (fun hm=>hn g hm hg)
theorem Qfk (ws : List Wd) {i n:Nat} (h:ws.length=n) (hi:i≤n):((ws.map wv).take i).length=i:=by rw [List.length_take,List.length_map]; omega
theorem Qn0 (ws : List Wd) {i n:Nat} (h:ws.length=n) (hi:i<n):(ws.map wv).take (i+1)=(ws.map wv).take i++[wv (wget ws i)]:=by
  have hl:i<(ws.map wv).length:=by rw [List.length_map]; omega
  rw [List.take_succ_eq_append_getElem hl]
  have:(ws.map wv)[i]=wv (wget ws i):=by
    unfold wget
    rw [List.getElem_map,List.getD_eq_getElem?_getD,List.getElem?_eq_getElem (by omega)]
    rfl
  rw [this]
theorem Qep (ws : List Wd) (i k:Nat) (hk:k<i):nth ((ws.map wv).take i) k=wv (wget ws k):=by
  rw [←nth_map]
  unfold nth
  rw [List.getD_eq_getElem?_getD,List.getD_eq_getElem?_getD,List.getElem?_take,if_pos hk]
theorem u64s (x : Int) (h:0≤x∧x<18446744073709551616):IntKind.u64.wrap x=x:=by rw [wrap64]; omega
theorem Qmp (t : List Int):∃ q,(padT t).length=128*q:=by
  refine ⟨(t.length+(1+fillN t.length+16))/128,?_⟩
  rw [padT,List.length_append,Qeq]
  unfold fillN; omega
theorem Qm7 (P : List Int) (m k:Nat) (h:k<128):nth ((P.drop (128*m)).take 128) k=nth P (128*m+k):=by
  unfold nth
  rw [List.getD_eq_getElem?_getD,List.getD_eq_getElem?_getD,List.getElem?_take,if_pos h,List.getElem?_drop]
theorem QlO (x : Wd):IntKind.u64.wrap (wv x*256)=wv (x<<<8):=by
  rw [wrap64]; unfold wv; rw [BitVec.toNat_shiftLeft,Nat.shiftLeft_eq]; omega
theorem Qqm (x : Wd) (y:Int) (h:0≤y∧y<256):IntKind.u64.wrap (wv (x<<<8)+y)=wv (x<<<8|||BitVec.ofInt 64 y):=by
  have e1:(x<<<8).toNat=(x.toNat%72057594037927936)<<<8:=by rw [BitVec.toNat_shiftLeft,Nat.shiftLeft_eq,Nat.shiftLeft_eq]; omega
  have e2:(BitVec.ofInt 64 y).toNat=y.toNat:=by simp only [BitVec.toNat_ofInt]; omega
  rw [wrap64]; unfold wv
  rw [BitVec.toNat_or,e1,e2,←Nat.shiftLeft_add_eq_or_of_lt (show y.toNat<2^8 by omega),Nat.shiftLeft_eq]
  omega
theorem Qp1 {P b:List Int} {m j p:Nat} (hP:Qal P) (hb:b=(P.drop (128*m)).take 128) (hj:j<16) (hp:p<8) :
    IntKind.u64.wrap (wv (hor b j p<<<8)+nth P (128*m+8*j+p))=wv (hor b j (p+1)):=by
  have e:nth P (128*m+8*j+p)=nth b (8*j+p):=by rw [hb,Qm7 _ _ _ (by omega),Nat.add_assoc]
  rw [e]
  have hB:=hP.nth (128*m+8*j+p)
  rw [e] at hB
  exact Qqm _ _ (by omega)
theorem QjM {t : List Int} (h:Qal t):Qal (padT t):=fun x hx=>by
  rcases List.mem_append.1 hx with e | e
  · exact h x e
  · exact Qfz _ x e
def shf (l : List Int) (j:Nat):List Int:=l.take (j+1)++(l.drop j).take (7-j)
theorem Qkp {a b c d e f g h:Int} {j:Nat} (hj:j≤7):(shf [a,b,c,d,e,f,g,h] j).length=8:=by
  rcases (show j=0∨j=1∨j=2∨j=3∨j=4∨j=5∨j=6∨j=7 by omega) with rfl | rfl | rfl | rfl | rfl | rfl | rfl | rfl <;> rfl
theorem Qog {a b c d e f g h:Int} {j:Nat} (h0:0<j) (hj:j≤7):(shf [a,b,c,d,e,f,g,h] j).set j (nth (shf [a,b,c,d,e,f,g,h] j) (j-1))=shf [a,b,c,d,e,f,g,h] (j-1):=by
  rcases (show j=1∨j=2∨j=3∨j=4∨j=5∨j=6∨j=7 by omega) with rfl | rfl | rfl | rfl | rfl | rfl | rfl <;> rfl
set_option maxRecDepth 20000 in
theorem Qk2 (t : List Int) (v:Value) (B:Nat) (w:World) (hlen:t.length≤900000000) (htb:Qal t) (hr:RdK .u8 B t v w):Calls Tryd.prog 24 #[v] w (Ret w (.agg (ints .u8 (dig t)))):=by
 obtain ⟨a_t,c_t,rfl,-⟩:=id hr
 refine enter 236 [(0,.slice a_t t.length c_t)] Tryd.func24 rfl rfl kj rfl ?_
 refine wp_seq_k fun K1 hK1=>?_
 refine Qac ?_
 refine Qaj (ints .u8 (List.replicate 64 0)) 30 2 rfl kj kj fun g2 W1 l2 e1 r2_1=>?_
 have x1:Ext w W1:=Ext.tr (Rely.Ext.refl w) e1
 have b2:w.heap.size≤g2:=qT (Rely.Ext.refl w).size l2
 refine Qaf ?_
 refine hK1 _ _ ?_
 refine wp_seq_k fun K3 hK3=>?_
 refine Qac ?_
 refine Qaj (ints .u64 (List.replicate 8 0)) 85 3 rfl kj kj fun g4 W2 l4 e2 r4_2=>?_
 have x2:Ext w W2:=Ext.tr x1 e2
 have b4:w.heap.size≤g4:=qT x1.size l4
 refine Qaf ?_
 refine hK3 _ _ ?_
 refine wp_seq_k fun K5 hK5=>?_
 refine Qac ?_
 refine Qb6 (fun v W'=>(fun v W=>∃ g,v=.slice (some ⟨g,0,none⟩) 8 8∧W2.heap.size≤g∧W.heap[g]? = some (.cells (ints .u64 Qbc) 46)) v W'∧Ext W2 W') 52 #[] 24 rfl kj kj ((QqF _).mono (by rintro e w' ⟨v,rfl,e1,hv⟩; exact ⟨v,rfl,hv,e1⟩)) fun vv6 W3 hh6=>?_
 obtain ⟨hv6,e3⟩:=hh6
 have x3:Ext w W3:=Ext.tr x2 e3
 obtain ⟨gd7,rfl,ld7,rd7_3⟩:=hv6
 have b7:w.heap.size≤gd7:=qT x2.size ld7
 refine Qab (.slice (some ⟨gd7,0,none⟩) 8 8) 4 rfl kj kj ?_
 refine Qaf ?_
 refine hK5 _ _ ?_
 refine wp_seq_k fun K8 hK8=>?_
 refine wp_seq_k fun K9 hK9=>?_
 refine Qac ?_
 refine Qab (.int .i64 0) 5 rfl kj kj ?_
 refine Qaf ?_
 refine hK9 _ _ ?_
 refine wp_block ?_
 have nx7_4:gd7≠g4:=(Qat r4_2 ld7)
 have r4_3:=(Qaa r4_2 e3)
 refine QaI (fun (s1:Nat)=>[(0,.slice a_t t.length c_t),(2,.pointer (some ⟨g2,0,none⟩)),(3,.pointer (some ⟨g4,0,none⟩)),(4,.slice (some ⟨gd7,0,none⟩) 8 8),(5,.int .i64 ((s1:Nat):Int))]) (fun (s1:Nat) W=>(s1≤8)∧(W.heap[g4]? = some (.cells (ints .u64 (fill Qbc 8 s1)) 85))∧(Qa7 [g4] W3 W)∧(Ext w W)) (fun (s1:Nat)=>8-s1) 0 ⟨rfl,rfl,rfl,rfl,rfl,trivial⟩ ⟨(Nat.zero_le _),(QaB r4_3 (fill_zero Qbc 8).symm),(Qa7.refl [g4] W3),x3⟩ fun s1 X1 V1 hI1=>?_
 obtain ⟨i,hs1⟩:∃ z,z=s1:=⟨_,rfl⟩
 subst hs1
 obtain ⟨hi,q4_1,kk1,xx1⟩:=hI1
 replace hi:i≤8:=hi
 replace q4_1:V1.heap[g4]? = some (.cells (ints .u64 (fill Qbc 8 i)) 85):=q4_1
 replace kk1:Qa7 [g4] W3 V1:=kk1
 replace xx1:Ext w V1:=xx1
 have q4:=kk1
 refine wp_seq_k fun K10 hK10=>?_
 refine wp_seq_k fun K11 hK11=>?_
 refine Qac ?_
 refine Qab (.int .i64 ((i:Nat):Int)) 25 rfl kj kj ?_
 refine Qab (.bool (decide (((i:Nat):Int)<8))) 26 rfl kj kj ?_
 refine Qaf ?_
 refine hK11 _ _ ?_
 refine Qa5 (t:=decide (((i:Nat):Int)<8)) kj (fun c12=>?_) (fun c12=>?_)
 ·skip
  have hlt26:i<8:=by have:=of_decide_eq_true c12; omega
  refine wp_skip ?_
  refine hK10 _ _ ?_
  refine wp_seq_k fun K13 hK13=>?_
  refine wp_block ?_
  refine Qac ?_
  refine Qab (.int .i64 ((i:Nat):Int)) 29 rfl kj kj ?_
  refine Qab (.slice (some ⟨gd7,0,none⟩) 8 8) 30 rfl kj kj ?_
  refine Qab (.int .i64 ((i:Nat):Int)) 31 rfl kj kj ?_
  refine Qab (.pointer (some ⟨gd7,i,none⟩)) 32 rfl kj (QaG 86 _ _ .i64 (i) gd7 8 8 46 rfl kj kj kj kj (by omega)) ?_
  have r7_4:=(Qa7.row q4 rd7_3 (Qbj nx7_4 QbI))
  refine Qab (.int .u64 (nth (Qbc) i)) 33 rfl kj (Qam 46 _ gd7 i 46 _ (.int .u64 (nth (Qbc) i)) _ r7_4 rfl kj (Qas _ _ _ (Nat.lt_of_lt_of_eq (by omega) (show Qbc.length=8 from rfl).symm)) kj) ?_
  refine Qab (.pointer (some ⟨g4,i,none⟩)) 34 rfl kj (QaD _ _ _ .i64 (i) _ 8 46 rfl kj kj kj kj (by omega)) ?_
  refine Qak g4 _ (ints .u64 ((fill Qbc 8 i).set i (nth (Qbc) i))) 85 q4_1 rfl kj (Qa1 46 _ _ g4 i 85 _ _ q4_1 rfl kj kj kj (Nat.lt_of_lt_of_eq (by omega) (fill_len (n:=8) rfl hi).symm)) fun W5 p5 r4_5=>?_
  have x5:Ext w W5:=Puts.ext p5 xx1 b4
  refine Qaf ?_
  refine hK13 _ _ ?_
  refine Qac ?_
  refine Qab (.int .i64 ((i:Nat):Int)) 27 rfl kj kj ?_
  refine Qab (.int .i64 ((i+1:Nat):Int)) 28 rfl kj (Qan (u:=.int .i64 (IntKind.i64.wrap (((i:Nat):Int)+1))) kj (congrArg (Value.int .i64) (i64n _ _ (by omega) (by omega)))) ?_
  refine Qab (.int .i64 ((i+1:Nat):Int)) 5 rfl kj kj ?_
  refine Qaf ?_
  repeat (first | with_reducible refine goX1 ?_ | with_reducible refine goX2 ?_ | with_reducible refine goX3 ?_)
  exact QaA (i+1) ⟨rfl,rfl,rfl,rfl,rfl,trivial⟩ ⟨(by omega),(QaB r4_5 (fill_set rfl hlt26)),(Qa7.puts q4 p5 (.inl (by simp))),x5⟩ (by show 8-(i+1)<8-i; omega)
 ·skip
  have heq26:i=8:=by have:=of_decide_eq_false c12; omega
  have r4_4_14:V1.heap[g4]? = some (.cells (ints .u64 ([wv S0.a,wv S0.b,wv S0.c,wv S0.d,wv S0.e,wv S0.f,wv S0.g,wv S0.h])) 85):=QaB q4_1 (by rw [heq26]; decide +kernel)
  refine wp_exit ?_
  refine hK8 _ _ ?_
  refine wp_seq_k fun K15 hK15=>?_
  refine Qac ?_
  refine Qb6 (fun v W'=>(fun v W=>∃ g,v=.slice (some ⟨g,0,none⟩) 80 80∧V1.heap.size≤g∧W.heap[g]? = some (.cells (ints .u64 Qc6) 46)) v W'∧Ext V1 W') 53 #[] 35 rfl kj kj ((Qq1 _).mono (by rintro e w' ⟨v,rfl,e1,hv⟩; exact ⟨v,rfl,hv,e1⟩)) fun vv16 W5 hh16=>?_
  obtain ⟨hv16,e5⟩:=hh16
  have x5:Ext w W5:=Ext.tr xx1 e5
  obtain ⟨gd17,rfl,ld17,rd17_5⟩:=hv16
  have b17:w.heap.size≤gd17:=qT xx1.size ld17
  refine Qab (.slice (some ⟨gd17,0,none⟩) 80 80) 6 rfl kj kj ?_
  refine Qaf ?_
  refine hK15 _ _ ?_
  refine wp_seq_k fun K18 hK18=>?_
  refine Qac ?_
  refine Qab (.slice a_t t.length c_t) 36 rfl kj kj ?_
  have r4_5:=(Qaa r4_4_14 e5)
  refine Qb6 (fun v W'=>(OwnN .u8 5 W5.heap.size (padT t)) v W'∧Ext W5 W') 54 #[.slice a_t t.length c_t,.int .i64 128,.int .i64 16] 37 rfl kj kj ((padC t _ _ _ hlen (RdK.ext hr x5)).mono (by rintro e w' ⟨v,rfl,e1,hv⟩; exact ⟨v,rfl,hv,e1⟩)) fun vv19 W6 hh19=>?_
  obtain ⟨hv19,e6⟩:=hh19
  have x6:Ext w W6:=Ext.tr x5 e6
  obtain ⟨am20,cm20,rfl,-⟩:=id (OwnN.rd hv19)
  have nb20_4:(.slice am20 ((padT t).length) cm20:Value).ownBlock≠some g4:=OwnN.nb hv19 (Qa3 r4_5)
  refine Qab (.slice am20 ((padT t).length) cm20) 7 rfl kj kj ?_
  refine Qaf ?_
  refine hK18 _ _ ?_
  refine wp_seq_k fun K21 hK21=>?_
  refine wp_seq_k fun K22 hK22=>?_
  refine Qac ?_
  refine Qab (.int .i64 0) 8 rfl kj kj ?_
  refine Qaf ?_
  refine hK22 _ _ ?_
  refine wp_block ?_
  have nx17_4:gd17≠g4:=(Qat r4_4_14 ld17)
  obtain ⟨q,hq⟩:=Qmp t
  have hPl:(padT t).length≤900000400:=by rw [padT,List.length_append,Qeq]; unfold fillN; omega
  have hPb:Qal (padT t):=QjM htb
  have r4_6:=(Qaa r4_5 e6)
  refine QaI (fun (s2:Nat)=>[(2,.pointer (some ⟨g2,0,none⟩)),(3,.pointer (some ⟨g4,0,none⟩)),(6,.slice (some ⟨gd17,0,none⟩) 80 80),(7,.slice am20 ((padT t).length) cm20),(8,.int .i64 ((128*s2:Nat):Int))]) (fun (s2:Nat) W=>(s2≤q)∧(W.heap[g4]? = some (.cells (ints .u64 ([wv (absorb S0 (padT t) s2).a,wv (absorb S0 (padT t) s2).b,wv (absorb S0 (padT t) s2).c,wv (absorb S0 (padT t) s2).d,wv (absorb S0 (padT t) s2).e,wv (absorb S0 (padT t) s2).f,wv (absorb S0 (padT t) s2).g,wv (absorb S0 (padT t) s2).h])) 85))∧(Qa7 [g4] W6 W)∧(Ext w W)) (fun (s2:Nat)=>q-s2) 0 ⟨rfl,rfl,rfl,rfl,rfl,trivial⟩ ⟨(Nat.zero_le _),r4_6,(Qa7.refl [g4] W6),x6⟩ fun s2 X2 V2 hI2=>?_
  obtain ⟨m,hs2⟩:∃ z,z=s2:=⟨_,rfl⟩
  subst hs2
  obtain ⟨hm,q4_2,kk2,xx2⟩:=hI2
  replace hm:m≤q:=hm
  replace q4_2:V2.heap[g4]? = some (.cells (ints .u64 ([wv (absorb S0 (padT t) m).a,wv (absorb S0 (padT t) m).b,wv (absorb S0 (padT t) m).c,wv (absorb S0 (padT t) m).d,wv (absorb S0 (padT t) m).e,wv (absorb S0 (padT t) m).f,wv (absorb S0 (padT t) m).g,wv (absorb S0 (padT t) m).h])) 85):=q4_2
  replace kk2:Qa7 [g4] W6 V2:=kk2
  replace xx2:Ext w V2:=xx2
  have q7:=kk2
  refine wp_seq_k fun K23 hK23=>?_
  refine wp_seq_k fun K24 hK24=>?_
  refine Qac ?_
  refine Qab (.int .i64 ((128*m:Nat):Int)) 38 rfl kj kj ?_
  refine Qab (.slice am20 ((padT t).length) cm20) 39 rfl kj kj ?_
  refine Qab (.int .i64 (((padT t).length:Nat):Int)) 40 rfl kj kj ?_
  refine Qab (.bool (decide (m<q))) 41 rfl kj (Qan (u:=.bool (decide (((128*m:Nat):Int)<(((padT t).length:Nat):Int)))) kj (congrArg Value.bool (by rw [hq]; exact decide_eq_decide.2 (by omega)))) ?_
  refine Qaf ?_
  refine hK24 _ _ ?_
  refine Qa5 (t:=decide (m<q)) kj (fun c25=>?_) (fun c25=>?_)
  ·skip
   have hlt41:m<q:=by have:=of_decide_eq_true c25; omega
   obtain ⟨b,hb⟩:∃ z,z=((padT t).drop (128*m)).take 128:=⟨_,rfl⟩
   obtain ⟨s,hs⟩:∃ z,z=absorb S0 (padT t) m:=⟨_,rfl⟩
   have r4_7_26:V2.heap[g4]? = some (.cells (ints .u64 ([wv s.a,wv s.b,wv s.c,wv s.d,wv s.e,wv s.f,wv s.g,wv s.h])) 85):=QaB q4_2 (by rw [hs])
   refine wp_skip ?_
   refine hK23 _ _ ?_
   refine wp_seq_k fun K27 hK27=>?_
   refine wp_block ?_
   refine wp_seq_k fun K28 hK28=>?_
   refine Qac ?_
   refine Qab (.slice none 0 0) 9 rfl kj kj ?_
   refine Qaf ?_
   refine hK28 _ _ ?_
   refine wp_seq_k fun K29 hK29=>?_
   refine wp_seq_k fun K30 hK30=>?_
   refine Qac ?_
   refine Qab (.int .i64 0) 10 rfl kj kj ?_
   refine Qaf ?_
   refine hK30 _ _ ?_
   refine wp_block ?_
   refine QaI (fun (s3:Nat×Value)=>[(2,.pointer (some ⟨g2,0,none⟩)),(3,.pointer (some ⟨g4,0,none⟩)),(6,.slice (some ⟨gd17,0,none⟩) 80 80),(7,.slice am20 ((padT t).length) cm20),(8,.int .i64 ((128*m:Nat):Int)),(9,s3.2),(10,.int .i64 ((s3.1:Nat):Int))]) (fun (s3:Nat×Value) W=>(s3.1≤16)∧(OwnN .u64 46 V2.heap.size (((w80 b).map wv).take s3.1) s3.2 W)∧(Ext V2 W)∧(Ext w W)) (fun (s3:Nat×Value)=>16-s3.1) (0,(.slice none 0 0)) ⟨rfl,rfl,rfl,rfl,rfl,rfl,rfl,trivial⟩ ⟨(Nat.zero_le _),(Qmu _ _ _ _),(Rely.Ext.refl V2),xx2⟩ fun s3 X3 V3 hI3=>?_
   obtain ⟨j,u⟩:=s3
   obtain ⟨hj,hu,kk3,xx3⟩:=hI3
   replace hj:j≤16:=hj
   replace hu:OwnN .u64 46 V2.heap.size (((w80 b).map wv).take j) u V3:=hu
   replace kk3:Ext V2 V3:=kk3
   replace xx3:Ext w V3:=xx3
   have e8:=kk3
   have f32_7:=(OwnN.keepsL hv19 q7 (QkT nb20_4 QnD))
   have f33_8:=(f32_7.ext e8)
   have hnp_31:(padT t).length=128*q:=hq
   obtain ⟨gcp_31,ocp_31,hap_31,hlp_31,hcp_31⟩:=Qez (OwnN.rd f33_8) (by rw [hnp_31]; omega)
   refine wp_seq_k fun K34 hK34=>?_
   refine wp_seq_k fun K35 hK35=>?_
   refine Qac ?_
   refine Qab (.int .i64 ((j:Nat):Int)) 44 rfl kj kj ?_
   refine Qab (.bool (decide (((j:Nat):Int)<16))) 45 rfl kj kj ?_
   refine Qaf ?_
   refine hK35 _ _ ?_
   refine Qa5 (t:=decide (((j:Nat):Int)<16)) kj (fun c36=>?_) (fun c36=>?_)
   ·skip
    have hlt45:j<16:=by have:=of_decide_eq_true c36; omega
    refine wp_skip ?_
    refine hK34 _ _ ?_
    refine wp_seq_k fun K37 hK37=>?_
    refine wp_block ?_
    refine wp_seq_k fun K38 hK38=>?_
    refine Qac ?_
    refine Qab (.int .u64 0) 11 rfl kj kj ?_
    refine Qaf ?_
    refine hK38 _ _ ?_
    refine wp_seq_k fun K39 hK39=>?_
    refine wp_seq_k fun K40 hK40=>?_
    refine Qac ?_
    refine Qab (.int .i64 0) 12 rfl kj kj ?_
    refine Qaf ?_
    refine hK40 _ _ ?_
    refine wp_block ?_
    refine QaI (fun (s4:Nat)=>[(2,.pointer (some ⟨g2,0,none⟩)),(3,.pointer (some ⟨g4,0,none⟩)),(6,.slice (some ⟨gd17,0,none⟩) 80 80),(7,.slice am20 ((padT t).length) cm20),(8,.int .i64 ((128*m:Nat):Int)),(9,u),(10,.int .i64 ((j:Nat):Int)),(11,.int .u64 (wv (hor b j s4))),(12,.int .i64 ((s4:Nat):Int))]) (fun (s4:Nat) W=>(s4≤8)∧(Ext V3 W)∧(Ext w W)) (fun (s4:Nat)=>8-s4) 0 ⟨rfl,rfl,rfl,rfl,rfl,rfl,rfl,rfl,rfl,trivial⟩ ⟨(Nat.zero_le _),(Rely.Ext.refl V3),xx3⟩ fun s4 X4 V4 hI4=>?_
    obtain ⟨z,hs4⟩:∃ z,z=s4:=⟨_,rfl⟩
    subst hs4
    obtain ⟨hz,kk4,xx4⟩:=hI4
    replace hz:z≤8:=hz
    replace kk4:Ext V3 V4:=kk4
    replace xx4:Ext w V4:=xx4
    have e9:=kk4
    have f42_9:=(f33_8.ext e9)
    have hnp_41:(padT t).length=128*q:=hq
    obtain ⟨gcp_41,ocp_41,hap_41,hlp_41,hcp_41⟩:=Qez (OwnN.rd f42_9) (by rw [hnp_41]; omega)
    refine wp_seq_k fun K43 hK43=>?_
    refine wp_seq_k fun K44 hK44=>?_
    refine Qac ?_
    refine Qab (.int .i64 ((z:Nat):Int)) 48 rfl kj kj ?_
    refine Qab (.bool (decide (((z:Nat):Int)<8))) 49 rfl kj kj ?_
    refine Qaf ?_
    refine hK44 _ _ ?_
    refine Qa5 (t:=decide (((z:Nat):Int)<8)) kj (fun c45=>?_) (fun c45=>?_)
    ·skip
     have hlt49:z<8:=by have:=of_decide_eq_true c45; omega
     refine wp_skip ?_
     refine hK43 _ _ ?_
     refine wp_seq_k fun K46 hK46=>?_
     refine wp_block ?_
     refine Qac ?_
     refine Qab (.int .u64 (wv (hor b j z))) 52 rfl kj kj ?_
     refine Qab (.int .u64 (wv (hor b j z<<<8))) 53 rfl kj (Qan (u:=.int .u64 (IntKind.u64.wrap ((wv (hor b j z))*256))) kj (congrArg (Value.int .u64) (QlO _))) ?_
     refine Qab (.slice am20 ((padT t).length) cm20) 54 rfl kj kj ?_
     refine Qab (.int .i64 ((128*m:Nat):Int)) 55 rfl kj kj ?_
     refine Qab (.int .i64 ((j:Nat):Int)) 56 rfl kj kj ?_
     refine Qab (.int .i64 ((8*j:Nat):Int)) 57 rfl kj (Qan (u:=.int .i64 (IntKind.i64.wrap (8*((j:Nat):Int)))) kj (congrArg (Value.int .i64) (i64n _ _ (by omega) (by omega)))) ?_
     refine Qab (.int .i64 (((128*m)+(8*j):Nat):Int)) 58 rfl kj (Qan (u:=.int .i64 (IntKind.i64.wrap (((128*m:Nat):Int)+((8*j:Nat):Int)))) kj (congrArg (Value.int .i64) (i64n _ _ (by omega) (by omega)))) ?_
     refine Qab (.int .i64 ((z:Nat):Int)) 59 rfl kj kj ?_
     refine Qab (.int .i64 ((((128*m)+(8*j))+z:Nat):Int)) 60 rfl kj (Qan (u:=.int .i64 (IntKind.i64.wrap ((((128*m)+(8*j):Nat):Int)+((z:Nat):Int)))) kj (congrArg (Value.int .i64) (i64n _ _ (by omega) (by omega)))) ?_
     refine Qab (.pointer (some ⟨gcp_41,ocp_41+(((128*m)+(8*j))+z),none⟩)) 61 rfl kj (Qc9 27 _ _ .i64 (((128*m)+(8*j))+z) gcp_41 ocp_41 ((padT t).length) cm20 5 am20 _ hap_41 rfl rfl kj kj kj kj (Nat.lt_of_lt_of_eq (show ((128*m)+(8*j))+z<128*q by omega) hnp_41.symm)) ?_
     refine Qab (.int .u8 (nth (padT t) ((((128*m)+(8*j))+z)))) 62 rfl kj (Qb7 5 _ _ (.int .u8 (nth (padT t) ((((128*m)+(8*j))+z)))) (hcp_41 (((128*m)+(8*j))+z) (Nat.lt_of_lt_of_eq (show ((128*m)+(8*j))+z<128*q by omega) hnp_41.symm)) rfl kj kj) ?_
     refine Qab (.int .u64 (nth (padT t) (128*m+8*j+z))) 63 rfl kj (Qan (u:=.int .u64 (IntKind.u64.wrap (nth (padT t) ((((128*m)+(8*j))+z))))) kj (congrArg (Value.int .u64) (u64s _ (by have:=hPb.nth (128*m+8*j+z); omega)))) ?_
     refine Qab (.int .u64 (wv (hor b j (z+1)))) 64 rfl kj (Qan (u:=.int .u64 (IntKind.u64.wrap ((wv (hor b j z<<<8))+(nth (padT t) (128*m+8*j+z))))) kj (congrArg (Value.int .u64) (Qp1 hPb hb hlt45 hlt49))) ?_
     refine Qab (.int .u64 (wv (hor b j (z+1)))) 11 rfl kj kj ?_
     refine Qaf ?_
     refine hK46 _ _ ?_
     refine Qac ?_
     refine Qab (.int .i64 ((z:Nat):Int)) 50 rfl kj kj ?_
     refine Qab (.int .i64 ((z+1:Nat):Int)) 51 rfl kj (Qan (u:=.int .i64 (IntKind.i64.wrap (((z:Nat):Int)+1))) kj (congrArg (Value.int .i64) (i64n _ _ (by omega) (by omega)))) ?_
     refine Qab (.int .i64 ((z+1:Nat):Int)) 12 rfl kj kj ?_
     refine Qaf ?_
     repeat (first | with_reducible refine goX1 ?_ | with_reducible refine goX2 ?_ | with_reducible refine goX3 ?_)
     exact QaA (z+1) ⟨rfl,rfl,rfl,rfl,rfl,rfl,rfl,rfl,rfl,trivial⟩ ⟨(by omega),e9,xx4⟩ (by show 8-(z+1)<8-z; omega)
    ·skip
     have heq49:z=8:=by have:=of_decide_eq_false c45; omega
     subst heq49
     refine wp_exit ?_
     refine hK39 _ _ ?_
     refine Qac ?_
     refine Qab (u) 65 rfl kj kj ?_
     refine Qab (.int .u64 (wv (hor b j 8))) 66 rfl kj kj ?_
     refine QaR (ints .u64 ([(wv (hor b j 8))])) 46 1 67 rfl kj kj fun g47 W10 l47 e10 r47_10=>?_
     have x10:Ext w W10:=Ext.tr xx4 e10
     have b47:w.heap.size≤g47:=qT xx4.size l47
     have f48_9:=(hu.ext e9)
     have f49_10:=(f48_9.ext e10)
     have y7_9:Ext V2 V4:=(Rely.Ext.trans e8 e9)
     have y7_10:Ext V2 W10:=(Rely.Ext.trans y7_9 e10)
     refine QbZ (k:=.u64) (T:=46) (xs:=((w80 b).map wv).take j) (ys:=[(wv (hor b j 8))]) (V:=V2) 8 (.tmp 65) (.tmp 67) 86 rfl kj kj (by decide) 68 rfl kj kj kj f49_10 (Qcc (xs:=[(wv (hor b j 8))]) (n:=1) rfl r47_10 (Qa3 r47_10) (show 1≤maxLen from by decide)) (by rw [Qfk _ (Qc7 b) (by omega)]; show _+1≤_; omega) y7_10 fun z1 W11 f50 y11 l11=>?_
     have x11:Ext w W11:=Ext.low x10 l11 xx2.size
     refine Qab (z1) 9 rfl kj kj ?_
     refine Qaf ?_
     refine hK37 _ _ ?_
     refine Qac ?_
     refine Qab (.int .i64 ((j:Nat):Int)) 46 rfl kj kj ?_
     refine Qab (.int .i64 ((j+1:Nat):Int)) 47 rfl kj (Qan (u:=.int .i64 (IntKind.i64.wrap (((j:Nat):Int)+1))) kj (congrArg (Value.int .i64) (i64n _ _ (by omega) (by omega)))) ?_
     refine Qab (.int .i64 ((j+1:Nat):Int)) 10 rfl kj kj ?_
     refine Qaf ?_
     repeat (first | with_reducible refine goX1 ?_ | with_reducible refine goX2 ?_ | with_reducible refine goX3 ?_)
     exact QaA ((j+1),z1) ⟨rfl,rfl,rfl,rfl,rfl,rfl,rfl,trivial⟩ ⟨(by omega),(by rw [Qn0 _ (Qc7 b) (by omega),Qkl b j hlt45]; exact f50),y11,x11⟩ (by show 16-(j+1)<16-j; omega)
   ·skip
    have heq45:j=16:=by have:=of_decide_eq_false c36; omega
    subst heq45
    refine wp_exit ?_
    refine hK29 _ _ ?_
    refine wp_seq_k fun K52 hK52=>?_
    refine wp_seq_k fun K53 hK53=>?_
    refine Qac ?_
    refine Qab (.int .i64 16) 13 rfl kj kj ?_
    refine Qaf ?_
    refine hK53 _ _ ?_
    refine wp_block ?_
    refine QaI (fun (s5:Nat×Value)=>[(2,.pointer (some ⟨g2,0,none⟩)),(3,.pointer (some ⟨g4,0,none⟩)),(6,.slice (some ⟨gd17,0,none⟩) 80 80),(7,.slice am20 ((padT t).length) cm20),(8,.int .i64 ((128*m:Nat):Int)),(9,s5.2),(13,.int .i64 ((s5.1:Nat):Int))]) (fun (s5:Nat×Value) W=>(16≤s5.1)∧(s5.1≤80)∧(OwnN .u64 46 V2.heap.size (((w80 b).map wv).take s5.1) s5.2 W)∧(Below V2.heap.size V3 W)∧(Ext w W)) (fun (s5:Nat×Value)=>80-s5.1) (16,u) ⟨rfl,rfl,rfl,rfl,rfl,rfl,rfl,trivial⟩ ⟨(qR _),(show (16:Nat)≤80 by decide),hu,(RowKit.Below.refl _ V3),xx3⟩ fun s5 X5 V5 hI5=>?_
    obtain ⟨i,u⟩:=s5
    obtain ⟨h16,hi,hu,kk5,xx5⟩:=hI5
    replace h16:16≤i:=h16
    replace hi:i≤80:=hi
    replace hu:OwnN .u64 46 V2.heap.size (((w80 b).map wv).take i) u V5:=hu
    replace kk5:Below V2.heap.size V3 V5:=kk5
    replace xx5:Ext w V5:=xx5
    have l9:=kk5
    obtain ⟨a9,c9,rfl,-⟩:=id (OwnN.rd hu)
    have hnw_54:(((w80 b).map wv).take i).length=i:=(Qfk _ (Qc7 b) hi)
    obtain ⟨gcw_54,ocw_54,haw_54,hlw_54,hcw_54⟩:=Qez (OwnN.rd hu) (by rw [hnw_54]; omega)
    refine wp_seq_k fun K55 hK55=>?_
    refine wp_seq_k fun K56 hK56=>?_
    refine Qac ?_
    refine Qab (.int .i64 ((i:Nat):Int)) 69 rfl kj kj ?_
    refine Qab (.bool (decide (((i:Nat):Int)<80))) 70 rfl kj kj ?_
    refine Qaf ?_
    refine hK56 _ _ ?_
    refine Qa5 (t:=decide (((i:Nat):Int)<80)) kj (fun c57=>?_) (fun c57=>?_)
    ·skip
     have hlt70:i<80:=by have:=of_decide_eq_true c57; omega
     refine wp_skip ?_
     refine hK55 _ _ ?_
     refine wp_seq_k fun K58 hK58=>?_
     refine wp_block ?_
     refine wp_seq_k fun K59 hK59=>?_
     refine Qac ?_
     refine Qab (.slice a9 ((((w80 b).map wv).take i).length) c9) 73 rfl kj kj ?_
     refine Qab (.int .i64 ((i:Nat):Int)) 74 rfl kj kj ?_
     refine Qab (.int .i64 ((i-15:Nat):Int)) 75 rfl kj (Qan (u:=.int .i64 (IntKind.i64.wrap (((i:Nat):Int)-15))) kj (congrArg (Value.int .i64) (i64n _ _ (by omega) (by omega)))) ?_
     refine Qab (.pointer (some ⟨gcw_54,ocw_54+(i-15),none⟩)) 76 rfl kj (Qc9 86 _ _ .i64 (i-15) gcw_54 ocw_54 ((((w80 b).map wv).take i).length) c9 46 a9 _ haw_54 rfl rfl kj kj kj kj (Nat.lt_of_lt_of_eq (show i-15<i by omega) hnw_54.symm)) ?_
     refine Qab (.int .u64 (wv (wget (w80 b) (i-15)))) 77 rfl kj (Qb7 46 _ _ (.int .u64 (wv (wget (w80 b) (i-15)))) ((hcw_54 (i-15) (Nat.lt_of_lt_of_eq (show i-15<i by omega) hnw_54.symm)).trans (congrArg (fun z=>some (Value.int .u64 z)) (Qep (w80 b) i (i-15) (by omega)))) rfl kj kj) ?_
     refine Qab (.int .u64 (wv (wget (w80 b) (i-15)))) 14 rfl kj kj ?_
     refine Qaf ?_
     refine hK59 _ _ ?_
     refine wp_seq_k fun K60 hK60=>?_
     refine Qac ?_
     refine Qab (.slice a9 ((((w80 b).map wv).take i).length) c9) 78 rfl kj kj ?_
     refine Qab (.int .i64 ((i:Nat):Int)) 79 rfl kj kj ?_
     refine Qab (.int .i64 ((i-2:Nat):Int)) 80 rfl kj (Qan (u:=.int .i64 (IntKind.i64.wrap (((i:Nat):Int)-2))) kj (congrArg (Value.int .i64) (i64n _ _ (by omega) (by omega)))) ?_
     refine Qab (.pointer (some ⟨gcw_54,ocw_54+(i-2),none⟩)) 81 rfl kj (Qc9 86 _ _ .i64 (i-2) gcw_54 ocw_54 ((((w80 b).map wv).take i).length) c9 46 a9 _ haw_54 rfl rfl kj kj kj kj (Nat.lt_of_lt_of_eq (show i-2<i by omega) hnw_54.symm)) ?_
     refine Qab (.int .u64 (wv (wget (w80 b) (i-2)))) 82 rfl kj (Qb7 46 _ _ (.int .u64 (wv (wget (w80 b) (i-2)))) ((hcw_54 (i-2) (Nat.lt_of_lt_of_eq (show i-2<i by omega) hnw_54.symm)).trans (congrArg (fun z=>some (Value.int .u64 z)) (Qep (w80 b) i (i-2) (by omega)))) rfl kj kj) ?_
     refine Qab (.int .u64 (wv (wget (w80 b) (i-2)))) 15 rfl kj kj ?_
     refine Qaf ?_
     refine hK60 _ _ ?_
     refine Qbb 31 [⟨none,[(9,none)]⟩,⟨none,[(15,none)]⟩,⟨none,[(84,some 1)]⟩,⟨none,[(15,none)]⟩,⟨none,[(86,some 3)]⟩,⟨none,[(85,some 2),(87,some 4)]⟩,⟨none,[(15,none)]⟩,⟨none,[(89,some 6)]⟩,⟨none,[(88,some 5),(90,some 7)]⟩,⟨none,[(9,none)]⟩,⟨none,[(13,none)]⟩,⟨none,[(93,some 10)]⟩,⟨none,[(92,some 9),(94,some 11)]⟩,⟨none,[(95,some 12)]⟩,⟨none,[(91,some 8),(96,some 13)]⟩,⟨none,[(14,none)]⟩,⟨none,[(98,some 15)]⟩,⟨none,[(14,none)]⟩,⟨none,[(100,some 17)]⟩,⟨none,[(99,some 16),(101,some 18)]⟩,⟨none,[(14,none)]⟩,⟨none,[(103,some 20)]⟩,⟨none,[(102,some 19),(104,some 21)]⟩,⟨none,[(97,some 14),(105,some 22)]⟩,⟨none,[(9,none)]⟩,⟨none,[(13,none)]⟩,⟨none,[(108,some 25)]⟩,⟨none,[(107,some 24),(109,some 26)]⟩,⟨none,[(110,some 27)]⟩,⟨none,[(106,some 23),(111,some 28)]⟩,⟨none,[(112,some 29)]⟩] kj kj fun F hF=>?_
     refine QaL (Qaz _) (.slice a9 ((((w80 b).map wv).take i).length) c9) kj kj (fun W=>kj) ?_
     refine QaL (Qaz _) (.int .u64 (wv (wget (w80 b) (i-2)))) kj kj (fun W=>kj) ?_
     refine QdF (Qaz _) (.int .u64 (wv (rr (wget (w80 b) (i-2)) 19))) 55 #[.int .u64 (wv (wget (w80 b) (i-2))),.int .u64 19] kj kj (fun W=>kj) (fun W hR=>(QfX (wget (w80 b) (i-2)) 19 (19) (by decide) (by decide) (by decide)) W) ?_
     refine QaL (Qaz _) (.int .u64 (wv (wget (w80 b) (i-2)))) kj kj (fun W=>kj) ?_
     refine QdF (Qaz _) (.int .u64 (wv (rr (wget (w80 b) (i-2)) 61))) 55 #[.int .u64 (wv (wget (w80 b) (i-2))),.int .u64 61] kj kj (fun W=>kj) (fun W hR=>(QfX (wget (w80 b) (i-2)) 61 (61) (by decide) (by decide) (by decide)) W) ?_
     refine QaL (Qaz _) (.int .u64 (wv (((rr (wget (w80 b) (i-2)) 19))^^^((rr (wget (w80 b) (i-2)) 61))))) kj kj (fun W=>(Qan (u:=.int .u64 (bits .xor .u64 (wv (rr (wget (w80 b) (i-2)) 19)) (wv (rr (wget (w80 b) (i-2)) 61)))) kj (congrArg (Value.int .u64) (w_xor _ _)))) ?_
     refine QaL (Qaz _) (.int .u64 (wv (wget (w80 b) (i-2)))) kj kj (fun W=>kj) ?_
     refine QaL (Qaz _) (.int .u64 (wv (((wget (w80 b) (i-2)))>>>6))) kj kj (fun W=>(Qbp .shr _ _ _ _ .u64 .u64 _ _ _ rfl kj kj (QcY _ _ _ _ _ _ (by decide) (w_shr _ _ 6 rfl (by decide))))) ?_
     refine QaL (Qaz _) (.int .u64 (wv (((((rr (wget (w80 b) (i-2)) 19))^^^((rr (wget (w80 b) (i-2)) 61))))^^^((((wget (w80 b) (i-2)))>>>6))))) kj kj (fun W=>(Qan (u:=.int .u64 (bits .xor .u64 (wv (((rr (wget (w80 b) (i-2)) 19))^^^((rr (wget (w80 b) (i-2)) 61)))) (wv (((wget (w80 b) (i-2)))>>>6)))) kj (congrArg (Value.int .u64) (w_xor _ _)))) ?_
     refine QaL (Qaz _) (.slice a9 ((((w80 b).map wv).take i).length) c9) kj kj (fun W=>kj) ?_
     refine QaL (Qaz _) (.int .i64 ((i:Nat):Int)) kj kj (fun W=>kj) ?_
     refine QaL (Qaz _) (.int .i64 ((i-7:Nat):Int)) kj kj (fun W=>(Qan (u:=.int .i64 (IntKind.i64.wrap (((i:Nat):Int)-7))) kj (congrArg (Value.int .i64) (i64n _ _ (by omega) (by omega))))) ?_
     refine QaL (Qaz _) (.pointer (some ⟨gcw_54,ocw_54+(i-7),none⟩)) kj kj (fun W=>(Qc9 86 _ _ .i64 (i-7) gcw_54 ocw_54 ((((w80 b).map wv).take i).length) c9 46 a9 _ haw_54 rfl rfl kj kj kj kj (Nat.lt_of_lt_of_eq (show i-7<i by omega) hnw_54.symm))) ?_
     refine QbJ (Qaz _) (.int .u64 (wv (wget (w80 b) (i-7)))) kj kj (fun W hR=>(Qb7 46 _ _ (.int .u64 (wv (wget (w80 b) (i-7)))) (((Below.cell (Rely.Ext.trans (Qai _) hR) hlw_54).trans (hcw_54 (i-7) (Nat.lt_of_lt_of_eq (show i-7<i by omega) hnw_54.symm))).trans (congrArg (fun z=>some (Value.int .u64 z)) (Qep (w80 b) i (i-7) (by omega)))) rfl kj kj)) ?_
     refine QaL (Qaz _) (.int .u64 (wv (((((((rr (wget (w80 b) (i-2)) 19))^^^((rr (wget (w80 b) (i-2)) 61))))^^^((((wget (w80 b) (i-2)))>>>6))))+((wget (w80 b) (i-7)))))) kj kj (fun W=>(Qan (u:=.int .u64 (IntKind.u64.wrap (wv (((((rr (wget (w80 b) (i-2)) 19))^^^((rr (wget (w80 b) (i-2)) 61))))^^^((((wget (w80 b) (i-2)))>>>6)))+wv (wget (w80 b) (i-7))))) kj (congrArg (Value.int .u64) (w_add _ _)))) ?_
     refine QaL (Qaz _) (.int .u64 (wv (wget (w80 b) (i-15)))) kj kj (fun W=>kj) ?_
     refine QdF (Qaz _) (.int .u64 (wv (rr (wget (w80 b) (i-15)) 1))) 55 #[.int .u64 (wv (wget (w80 b) (i-15))),.int .u64 1] kj kj (fun W=>kj) (fun W hR=>(QfX (wget (w80 b) (i-15)) 1 (1) (by decide) (by decide) (by decide)) W) ?_
     refine QaL (Qaz _) (.int .u64 (wv (wget (w80 b) (i-15)))) kj kj (fun W=>kj) ?_
     refine QdF (Qaz _) (.int .u64 (wv (rr (wget (w80 b) (i-15)) 8))) 55 #[.int .u64 (wv (wget (w80 b) (i-15))),.int .u64 8] kj kj (fun W=>kj) (fun W hR=>(QfX (wget (w80 b) (i-15)) 8 (8) (by decide) (by decide) (by decide)) W) ?_
     refine QaL (Qaz _) (.int .u64 (wv (((rr (wget (w80 b) (i-15)) 1))^^^((rr (wget (w80 b) (i-15)) 8))))) kj kj (fun W=>(Qan (u:=.int .u64 (bits .xor .u64 (wv (rr (wget (w80 b) (i-15)) 1)) (wv (rr (wget (w80 b) (i-15)) 8)))) kj (congrArg (Value.int .u64) (w_xor _ _)))) ?_
     refine QaL (Qaz _) (.int .u64 (wv (wget (w80 b) (i-15)))) kj kj (fun W=>kj) ?_
     refine QaL (Qaz _) (.int .u64 (wv (((wget (w80 b) (i-15)))>>>7))) kj kj (fun W=>(Qbp .shr _ _ _ _ .u64 .u64 _ _ _ rfl kj kj (QcY _ _ _ _ _ _ (by decide) (w_shr _ _ 7 rfl (by decide))))) ?_
     refine QaL (Qaz _) (.int .u64 (wv (((((rr (wget (w80 b) (i-15)) 1))^^^((rr (wget (w80 b) (i-15)) 8))))^^^((((wget (w80 b) (i-15)))>>>7))))) kj kj (fun W=>(Qan (u:=.int .u64 (bits .xor .u64 (wv (((rr (wget (w80 b) (i-15)) 1))^^^((rr (wget (w80 b) (i-15)) 8)))) (wv (((wget (w80 b) (i-15)))>>>7)))) kj (congrArg (Value.int .u64) (w_xor _ _)))) ?_
     refine QaL (Qaz _) (.int .u64 (wv (((((((((rr (wget (w80 b) (i-2)) 19))^^^((rr (wget (w80 b) (i-2)) 61))))^^^((((wget (w80 b) (i-2)))>>>6))))+((wget (w80 b) (i-7)))))+((((((rr (wget (w80 b) (i-15)) 1))^^^((rr (wget (w80 b) (i-15)) 8))))^^^((((wget (w80 b) (i-15)))>>>7))))))) kj kj (fun W=>(Qan (u:=.int .u64 (IntKind.u64.wrap (wv (((((((rr (wget (w80 b) (i-2)) 19))^^^((rr (wget (w80 b) (i-2)) 61))))^^^((((wget (w80 b) (i-2)))>>>6))))+((wget (w80 b) (i-7))))+wv (((((rr (wget (w80 b) (i-15)) 1))^^^((rr (wget (w80 b) (i-15)) 8))))^^^((((wget (w80 b) (i-15)))>>>7)))))) kj (congrArg (Value.int .u64) (w_add _ _)))) ?_
     refine QaL (Qaz _) (.slice a9 ((((w80 b).map wv).take i).length) c9) kj kj (fun W=>kj) ?_
     refine QaL (Qaz _) (.int .i64 ((i:Nat):Int)) kj kj (fun W=>kj) ?_
     refine QaL (Qaz _) (.int .i64 ((i-16:Nat):Int)) kj kj (fun W=>(Qan (u:=.int .i64 (IntKind.i64.wrap (((i:Nat):Int)-16))) kj (congrArg (Value.int .i64) (i64n _ _ (by omega) (by omega))))) ?_
     refine QaL (Qaz _) (.pointer (some ⟨gcw_54,ocw_54+(i-16),none⟩)) kj kj (fun W=>(Qc9 86 _ _ .i64 (i-16) gcw_54 ocw_54 ((((w80 b).map wv).take i).length) c9 46 a9 _ haw_54 rfl rfl kj kj kj kj (Nat.lt_of_lt_of_eq (show i-16<i by omega) hnw_54.symm))) ?_
     refine QbJ (Qaz _) (.int .u64 (wv (wget (w80 b) (i-16)))) kj kj (fun W hR=>(Qb7 46 _ _ (.int .u64 (wv (wget (w80 b) (i-16)))) (((Below.cell (Rely.Ext.trans (Qai _) hR) hlw_54).trans (hcw_54 (i-16) (Nat.lt_of_lt_of_eq (show i-16<i by omega) hnw_54.symm))).trans (congrArg (fun z=>some (Value.int .u64 z)) (Qep (w80 b) i (i-16) (by omega)))) rfl kj kj)) ?_
     refine QaL (Qaz _) (.int .u64 (wv (((((((((((rr (wget (w80 b) (i-2)) 19))^^^((rr (wget (w80 b) (i-2)) 61))))^^^((((wget (w80 b) (i-2)))>>>6))))+((wget (w80 b) (i-7)))))+((((((rr (wget (w80 b) (i-15)) 1))^^^((rr (wget (w80 b) (i-15)) 8))))^^^((((wget (w80 b) (i-15)))>>>7))))))+((wget (w80 b) (i-16)))))) kj kj (fun W=>(Qan (u:=.int .u64 (IntKind.u64.wrap (wv (((((((((rr (wget (w80 b) (i-2)) 19))^^^((rr (wget (w80 b) (i-2)) 61))))^^^((((wget (w80 b) (i-2)))>>>6))))+((wget (w80 b) (i-7)))))+((((((rr (wget (w80 b) (i-15)) 1))^^^((rr (wget (w80 b) (i-15)) 8))))^^^((((wget (w80 b) (i-15)))>>>7)))))+wv (wget (w80 b) (i-16))))) kj (congrArg (Value.int .u64) (w_add _ _)))) ?_
     refine Qlv (Qaz _) (ints .u64 ([(wv (((((((((((rr (wget (w80 b) (i-2)) 19))^^^((rr (wget (w80 b) (i-2)) 61))))^^^((((wget (w80 b) (i-2)))>>>6))))+((wget (w80 b) (i-7)))))+((((((rr (wget (w80 b) (i-15)) 1))^^^((rr (wget (w80 b) (i-15)) 8))))^^^((((wget (w80 b) (i-15)))>>>7))))))+((wget (w80 b) (i-16)))))])) 46 1 (NewS.stable _ _ _ _) kj kj (fun W=>kj) ?_
     refine QdE (hF _ fun W10 e10=>?_)
     simp only [List.nil_append,List.cons_append,List.take_succ_cons,List.take_zero,List.drop_succ_cons,List.drop_zero,finE,up]
     intro vv61 hv61
     clear hF
     have x10:Ext w W10:=Ext.tr xx5 e10
     obtain ⟨g61,rfl,l61,r61_10⟩:=hv61
     have b61:w.heap.size≤g61:=qT xx5.size l61
     have f62_10:=(hu.ext e10)
     have y7_9:Ext V2 V5:=(Ext.low e8 l9 (Rely.Ext.refl V2).size)
     have y7_10:Ext V2 W10:=(Rely.Ext.trans y7_9 e10)
     refine QbZ (k:=.u64) (T:=46) (xs:=((w80 b).map wv).take i) (ys:=[(wv (((((((((((rr (wget (w80 b) (i-2)) 19))^^^((rr (wget (w80 b) (i-2)) 61))))^^^((((wget (w80 b) (i-2)))>>>6))))+((wget (w80 b) (i-7)))))+((((((rr (wget (w80 b) (i-15)) 1))^^^((rr (wget (w80 b) (i-15)) 8))))^^^((((wget (w80 b) (i-15)))>>>7))))))+((wget (w80 b) (i-16)))))]) (V:=V2) 8 (.tmp 83) (.tmp 113) 86 rfl kj kj (by decide) 114 rfl kj kj kj f62_10 (Qcc (xs:=[(wv (((((((((((rr (wget (w80 b) (i-2)) 19))^^^((rr (wget (w80 b) (i-2)) 61))))^^^((((wget (w80 b) (i-2)))>>>6))))+((wget (w80 b) (i-7)))))+((((((rr (wget (w80 b) (i-15)) 1))^^^((rr (wget (w80 b) (i-15)) 8))))^^^((((wget (w80 b) (i-15)))>>>7))))))+((wget (w80 b) (i-16)))))]) (n:=1) rfl r61_10 (Qa3 r61_10) (show 1≤maxLen from by decide)) (by rw [Qfk _ (Qc7 b) (by omega)]; show _+1≤_; omega) y7_10 fun z2 W11 f63 y11 l11=>?_
     have x11:Ext w W11:=Ext.low x10 l11 xx2.size
     refine Qab (z2) 9 rfl kj kj ?_
     refine Qaf ?_
     refine hK58 _ _ ?_
     refine Qac ?_
     refine Qab (.int .i64 ((i:Nat):Int)) 71 rfl kj kj ?_
     refine Qab (.int .i64 ((i+1:Nat):Int)) 72 rfl kj (Qan (u:=.int .i64 (IntKind.i64.wrap (((i:Nat):Int)+1))) kj (congrArg (Value.int .i64) (i64n _ _ (by omega) (by omega)))) ?_
     refine Qab (.int .i64 ((i+1:Nat):Int)) 13 rfl kj kj ?_
     refine Qaf ?_
     repeat (first | with_reducible refine goX1 ?_ | with_reducible refine goX2 ?_ | with_reducible refine goX3 ?_)
     exact QaA ((i+1),z2) ⟨rfl,rfl,rfl,rfl,rfl,rfl,rfl,trivial⟩ ⟨(by omega),(by omega),(by rw [Qn0 _ (Qc7 b) (by omega),QiH b i h16 hlt70]; exact f63),(RowKit.Below.trans (RowKit.Below.trans l9 (RowKit.Below.mono e10 y7_9.size)) l11),x11⟩ (by show 80-(i+1)<80-i; omega)
    ·skip
     have heq70:i=80:=by have:=of_decide_eq_false c57; omega
     subst heq70
     have nb9_4:(.slice a9 ((((w80 b).map wv).take 80).length) c9:Value).ownBlock≠some g4:=OwnN.nb hu (Qa3 r4_7_26)
     refine wp_exit ?_
     refine hK52 _ _ ?_
     refine wp_seq_k fun K65 hK65=>?_
     refine Qac ?_
     have f66_9:=(OwnN.low (n:=0) f33_8 f32_7 l9)
     have r4_8:=(Qaa r4_7_26 e8)
     have r4_9:=(Qc0 l9 r4_8 (Qa3 r4_7_26))
     refine Qab (.agg (ints .u64 ([wv s.a,wv s.b,wv s.c,wv s.d,wv s.e,wv s.f,wv s.g,wv s.h]))) 115 rfl kj (Qag 85 _ g4 85 _ _ r4_9 rfl kj kj (isz (n:=8) kj kj)) ?_
     refine Qaj (ints .u64 (List.replicate 8 0)) 85 16 rfl kj kj fun g67 W10 l67 e10 r67_10=>?_
     have x10:Ext w W10:=Ext.tr xx5 e10
     have b67:w.heap.size≤g67:=qT xx5.size l67
     refine Qak g67 _ (ints .u64 ([wv s.a,wv s.b,wv s.c,wv s.d,wv s.e,wv s.f,wv s.g,wv s.h])) 85 r67_10 rfl kj (Qah 85 _ _ g67 85 _ _ r67_10 rfl kj kj (isz (n:=8) kj kj) (eqsz (n:=8) ((Qae _ _).trans (qZ (n:=8))) kj) (ints_one _ _)) fun W11 p11 r67_11=>?_
     have x11:Ext w W11:=Puts.ext p11 x10 b67
     refine Qaf ?_
     refine hK65 _ _ ?_
     refine wp_seq_k fun K68 hK68=>?_
     refine wp_seq_k fun K69 hK69=>?_
     refine Qac ?_
     refine Qab (.int .i64 0) 17 rfl kj kj ?_
     refine Qaf ?_
     refine hK69 _ _ ?_
     refine wp_block ?_
     have r17_6:=(Qaa rd17_5 e6)
     have r17_7:=(Qa7.row q7 r17_6 (Qbj nx17_4 QbI))
     have r17_8:=(Qaa r17_7 e8)
     have r17_9:=(Qc0 l9 r17_8 (Qa3 r17_7))
     have nx17_67:gd17≠g67:=(Qad r17_9 l67)
     have nb7_15:(.slice am20 ((padT t).length) cm20:Value).ownBlock≠some g67:=fun e=>by have h1:=OwnN.lt f66_9 e; have h2:=l67; omega
     have nb9_15:(.slice a9 ((((w80 b).map wv).take 80).length) c9:Value).ownBlock≠some g67:=fun e=>by have h1:=OwnN.lt hu e; have h2:=l67; omega
     refine QaI (fun (s6:Nat)=>[(2,.pointer (some ⟨g2,0,none⟩)),(3,.pointer (some ⟨g4,0,none⟩)),(6,.slice (some ⟨gd17,0,none⟩) 80 80),(7,.slice am20 ((padT t).length) cm20),(8,.int .i64 ((128*m:Nat):Int)),(9,.slice a9 ((((w80 b).map wv).take 80).length) c9),(16,.pointer (some ⟨g67,0,none⟩)),(17,.int .i64 ((s6:Nat):Int))]) (fun (s6:Nat) W=>(s6≤80)∧(W.heap[g67]? = some (.cells (ints .u64 ([wv (rnds KK (w80 b) s s6).a,wv (rnds KK (w80 b) s s6).b,wv (rnds KK (w80 b) s s6).c,wv (rnds KK (w80 b) s s6).d,wv (rnds KK (w80 b) s s6).e,wv (rnds KK (w80 b) s s6).f,wv (rnds KK (w80 b) s s6).g,wv (rnds KK (w80 b) s s6).h])) 85))∧(Qa7 [g67] W11 W)∧(Ext w W)) (fun (s6:Nat)=>80-s6) 0 ⟨rfl,rfl,rfl,rfl,rfl,rfl,rfl,rfl,trivial⟩ ⟨(Nat.zero_le _),r67_11,(Qa7.refl [g67] W11),x11⟩ fun s6 X6 V6 hI6=>?_
     obtain ⟨i,hs6⟩:∃ z,z=s6:=⟨_,rfl⟩
     subst hs6
     obtain ⟨hi,q67_6,kk6,xx6⟩:=hI6
     replace hi:i≤80:=hi
     replace q67_6:V6.heap[g67]? = some (.cells (ints .u64 ([wv (rnds KK (w80 b) s i).a,wv (rnds KK (w80 b) s i).b,wv (rnds KK (w80 b) s i).c,wv (rnds KK (w80 b) s i).d,wv (rnds KK (w80 b) s i).e,wv (rnds KK (w80 b) s i).f,wv (rnds KK (w80 b) s i).g,wv (rnds KK (w80 b) s i).h])) 85):=q67_6
     replace kk6:Qa7 [g67] W11 V6:=kk6
     replace xx6:Ext w V6:=xx6
     have q12:=kk6
     have f71_10:=(hu.ext e10)
     have f72_11:=(f71_10.puts p11 nb9_15)
     have f73_12:=(OwnN.keepsL f72_11 q12 (QkT nb9_15 QnD))
     have hnw_70:(((w80 b).map wv).take 80).length=80:=(Qfk _ (Qc7 b) (qR _))
     obtain ⟨gcw_70,ocw_70,haw_70,hlw_70,hcw_70⟩:=Qez (OwnN.rd f73_12) (by rw [hnw_70]; omega)
     refine wp_seq_k fun K74 hK74=>?_
     refine wp_seq_k fun K75 hK75=>?_
     refine Qac ?_
     refine Qab (.int .i64 ((i:Nat):Int)) 116 rfl kj kj ?_
     refine Qab (.bool (decide (((i:Nat):Int)<80))) 117 rfl kj kj ?_
     refine Qaf ?_
     refine hK75 _ _ ?_
     refine Qa5 (t:=decide (((i:Nat):Int)<80)) kj (fun c76=>?_) (fun c76=>?_)
     ·skip
      have hlt117:i<80:=by have:=of_decide_eq_true c76; omega
      refine wp_skip ?_
      refine hK74 _ _ ?_
      refine wp_seq_k fun K77 hK77=>?_
      refine wp_block ?_
      refine wp_seq_k fun K78 hK78=>?_
      refine Qbb 36 [⟨none,[(16,none)]⟩,⟨none,[(120,some 0)]⟩,⟨none,[(16,none)]⟩,⟨none,[(122,some 2)]⟩,⟨none,[(123,some 3)]⟩,⟨none,[(16,none)]⟩,⟨none,[(125,some 5)]⟩,⟨none,[(126,some 6)]⟩,⟨none,[(124,some 4),(127,some 7)]⟩,⟨none,[(16,none)]⟩,⟨none,[(129,some 9)]⟩,⟨none,[(130,some 10)]⟩,⟨none,[(128,some 8),(131,some 11)]⟩,⟨none,[(121,some 1),(132,some 12)]⟩,⟨none,[(16,none)]⟩,⟨none,[(134,some 14)]⟩,⟨none,[(16,none)]⟩,⟨none,[(136,some 16)]⟩,⟨none,[(135,some 15),(137,some 17)]⟩,⟨none,[(16,none)]⟩,⟨none,[(139,some 19)]⟩,⟨none,[(140,some 20)]⟩,⟨none,[(16,none)]⟩,⟨none,[(142,some 22)]⟩,⟨none,[(141,some 21),(143,some 23)]⟩,⟨none,[(138,some 18),(144,some 24)]⟩,⟨none,[(133,some 13),(145,some 25)]⟩,⟨none,[(6,none)]⟩,⟨none,[(17,none)]⟩,⟨none,[(147,some 27),(148,some 28)]⟩,⟨none,[(149,some 29)]⟩,⟨none,[(146,some 26),(150,some 30)]⟩,⟨none,[(9,none)]⟩,⟨none,[(17,none)]⟩,⟨none,[(152,some 32),(153,some 33)]⟩,⟨none,[(154,some 34)]⟩] kj kj fun F hF=>?_
      refine QaL (Qaz _) (.pointer (some ⟨g67,7,none⟩)) kj kj (fun W=>kj) ?_
      refine QbJ (Qaz _) (.int .u64 (wv (rnds KK (w80 b) s i).h)) kj kj (fun W hR=>(Qam 46 _ g67 7 85 _ (.int .u64 (wv (rnds KK (w80 b) s i).h)) _ (Qaa (Qaa q67_6 (Qai _)) hR) rfl kj kj kj)) ?_
      refine QaL (Qaz _) (.pointer (some ⟨g67,4,none⟩)) kj kj (fun W=>kj) ?_
      refine QbJ (Qaz _) (.int .u64 (wv (rnds KK (w80 b) s i).e)) kj kj (fun W hR=>(Qam 46 _ g67 4 85 _ (.int .u64 (wv (rnds KK (w80 b) s i).e)) _ (Qaa (Qaa q67_6 (Qai _)) hR) rfl kj kj kj)) ?_
      refine QdF (Qaz _) (.int .u64 (wv (rr ((rnds KK (w80 b) s i).e) 14))) 55 #[.int .u64 (wv (rnds KK (w80 b) s i).e),.int .u64 14] kj kj (fun W=>kj) (fun W hR=>(QfX ((rnds KK (w80 b) s i).e) 14 (14) (by decide) (by decide) (by decide)) W) ?_
      refine QaL (Qaz _) (.pointer (some ⟨g67,4,none⟩)) kj kj (fun W=>kj) ?_
      refine QbJ (Qaz _) (.int .u64 (wv (rnds KK (w80 b) s i).e)) kj kj (fun W hR=>(Qam 46 _ g67 4 85 _ (.int .u64 (wv (rnds KK (w80 b) s i).e)) _ (Qaa (Qaa q67_6 (Qai _)) hR) rfl kj kj kj)) ?_
      refine QdF (Qaz _) (.int .u64 (wv (rr ((rnds KK (w80 b) s i).e) 18))) 55 #[.int .u64 (wv (rnds KK (w80 b) s i).e),.int .u64 18] kj kj (fun W=>kj) (fun W hR=>(QfX ((rnds KK (w80 b) s i).e) 18 (18) (by decide) (by decide) (by decide)) W) ?_
      refine QaL (Qaz _) (.int .u64 (wv (((rr ((rnds KK (w80 b) s i).e) 14))^^^((rr ((rnds KK (w80 b) s i).e) 18))))) kj kj (fun W=>(Qan (u:=.int .u64 (bits .xor .u64 (wv (rr ((rnds KK (w80 b) s i).e) 14)) (wv (rr ((rnds KK (w80 b) s i).e) 18)))) kj (congrArg (Value.int .u64) (w_xor _ _)))) ?_
      refine QaL (Qaz _) (.pointer (some ⟨g67,4,none⟩)) kj kj (fun W=>kj) ?_
      refine QbJ (Qaz _) (.int .u64 (wv (rnds KK (w80 b) s i).e)) kj kj (fun W hR=>(Qam 46 _ g67 4 85 _ (.int .u64 (wv (rnds KK (w80 b) s i).e)) _ (Qaa (Qaa q67_6 (Qai _)) hR) rfl kj kj kj)) ?_
      refine QdF (Qaz _) (.int .u64 (wv (rr ((rnds KK (w80 b) s i).e) 41))) 55 #[.int .u64 (wv (rnds KK (w80 b) s i).e),.int .u64 41] kj kj (fun W=>kj) (fun W hR=>(QfX ((rnds KK (w80 b) s i).e) 41 (41) (by decide) (by decide) (by decide)) W) ?_
      refine QaL (Qaz _) (.int .u64 (wv (((((rr ((rnds KK (w80 b) s i).e) 14))^^^((rr ((rnds KK (w80 b) s i).e) 18))))^^^((rr ((rnds KK (w80 b) s i).e) 41))))) kj kj (fun W=>(Qan (u:=.int .u64 (bits .xor .u64 (wv (((rr ((rnds KK (w80 b) s i).e) 14))^^^((rr ((rnds KK (w80 b) s i).e) 18)))) (wv (rr ((rnds KK (w80 b) s i).e) 41)))) kj (congrArg (Value.int .u64) (w_xor _ _)))) ?_
      refine QaL (Qaz _) (.int .u64 (wv (((rnds KK (w80 b) s i).h)+((((((rr ((rnds KK (w80 b) s i).e) 14))^^^((rr ((rnds KK (w80 b) s i).e) 18))))^^^((rr ((rnds KK (w80 b) s i).e) 41))))))) kj kj (fun W=>(Qan (u:=.int .u64 (IntKind.u64.wrap (wv ((rnds KK (w80 b) s i).h)+wv (((((rr ((rnds KK (w80 b) s i).e) 14))^^^((rr ((rnds KK (w80 b) s i).e) 18))))^^^((rr ((rnds KK (w80 b) s i).e) 41)))))) kj (congrArg (Value.int .u64) (w_add _ _)))) ?_
      refine QaL (Qaz _) (.pointer (some ⟨g67,4,none⟩)) kj kj (fun W=>kj) ?_
      refine QbJ (Qaz _) (.int .u64 (wv (rnds KK (w80 b) s i).e)) kj kj (fun W hR=>(Qam 46 _ g67 4 85 _ (.int .u64 (wv (rnds KK (w80 b) s i).e)) _ (Qaa (Qaa q67_6 (Qai _)) hR) rfl kj kj kj)) ?_
      refine QaL (Qaz _) (.pointer (some ⟨g67,5,none⟩)) kj kj (fun W=>kj) ?_
      refine QbJ (Qaz _) (.int .u64 (wv (rnds KK (w80 b) s i).f)) kj kj (fun W hR=>(Qam 46 _ g67 5 85 _ (.int .u64 (wv (rnds KK (w80 b) s i).f)) _ (Qaa (Qaa q67_6 (Qai _)) hR) rfl kj kj kj)) ?_
      refine QaL (Qaz _) (.int .u64 (wv (((rnds KK (w80 b) s i).e)&&&((rnds KK (w80 b) s i).f)))) kj kj (fun W=>(Qan (u:=.int .u64 (bits .and .u64 (wv ((rnds KK (w80 b) s i).e)) (wv ((rnds KK (w80 b) s i).f)))) kj (congrArg (Value.int .u64) (w_and _ _)))) ?_
      refine QaL (Qaz _) (.pointer (some ⟨g67,4,none⟩)) kj kj (fun W=>kj) ?_
      refine QbJ (Qaz _) (.int .u64 (wv (rnds KK (w80 b) s i).e)) kj kj (fun W hR=>(Qam 46 _ g67 4 85 _ (.int .u64 (wv (rnds KK (w80 b) s i).e)) _ (Qaa (Qaa q67_6 (Qai _)) hR) rfl kj kj kj)) ?_
      refine QaL (Qaz _) (.int .u64 (wv (~~~((rnds KK (w80 b) s i).e)))) kj kj (fun W=>(Qan (u:=.int .u64 (IntKind.u64.wrap (18446744073709551615-wv ((rnds KK (w80 b) s i).e)))) kj (congrArg (Value.int .u64) (w_not _)))) ?_
      refine QaL (Qaz _) (.pointer (some ⟨g67,6,none⟩)) kj kj (fun W=>kj) ?_
      refine QbJ (Qaz _) (.int .u64 (wv (rnds KK (w80 b) s i).g)) kj kj (fun W hR=>(Qam 46 _ g67 6 85 _ (.int .u64 (wv (rnds KK (w80 b) s i).g)) _ (Qaa (Qaa q67_6 (Qai _)) hR) rfl kj kj kj)) ?_
      refine QaL (Qaz _) (.int .u64 (wv (((~~~((rnds KK (w80 b) s i).e)))&&&((rnds KK (w80 b) s i).g)))) kj kj (fun W=>(Qan (u:=.int .u64 (bits .and .u64 (wv (~~~((rnds KK (w80 b) s i).e))) (wv ((rnds KK (w80 b) s i).g)))) kj (congrArg (Value.int .u64) (w_and _ _)))) ?_
      refine QaL (Qaz _) (.int .u64 (wv (((((rnds KK (w80 b) s i).e)&&&((rnds KK (w80 b) s i).f)))^^^((((~~~((rnds KK (w80 b) s i).e)))&&&((rnds KK (w80 b) s i).g)))))) kj kj (fun W=>(Qan (u:=.int .u64 (bits .xor .u64 (wv (((rnds KK (w80 b) s i).e)&&&((rnds KK (w80 b) s i).f))) (wv (((~~~((rnds KK (w80 b) s i).e)))&&&((rnds KK (w80 b) s i).g))))) kj (congrArg (Value.int .u64) (w_xor _ _)))) ?_
      refine QaL (Qaz _) (.int .u64 (wv (((((rnds KK (w80 b) s i).h)+((((((rr ((rnds KK (w80 b) s i).e) 14))^^^((rr ((rnds KK (w80 b) s i).e) 18))))^^^((rr ((rnds KK (w80 b) s i).e) 41))))))+((((((rnds KK (w80 b) s i).e)&&&((rnds KK (w80 b) s i).f)))^^^((((~~~((rnds KK (w80 b) s i).e)))&&&((rnds KK (w80 b) s i).g)))))))) kj kj (fun W=>(Qan (u:=.int .u64 (IntKind.u64.wrap (wv (((rnds KK (w80 b) s i).h)+((((((rr ((rnds KK (w80 b) s i).e) 14))^^^((rr ((rnds KK (w80 b) s i).e) 18))))^^^((rr ((rnds KK (w80 b) s i).e) 41)))))+wv (((((rnds KK (w80 b) s i).e)&&&((rnds KK (w80 b) s i).f)))^^^((((~~~((rnds KK (w80 b) s i).e)))&&&((rnds KK (w80 b) s i).g))))))) kj (congrArg (Value.int .u64) (w_add _ _)))) ?_
      refine QaL (Qaz _) (.slice (some ⟨gd17,0,none⟩) 80 80) kj kj (fun W=>kj) ?_
      refine QaL (Qaz _) (.int .i64 ((i:Nat):Int)) kj kj (fun W=>kj) ?_
      refine QaL (Qaz _) (.pointer (some ⟨gd17,i,none⟩)) kj kj (fun W=>(QaG 86 _ _ .i64 (i) gd17 80 80 46 rfl kj kj kj kj (by omega))) ?_
      have r17_10:=(Qaa r17_9 e10)
      have r17_11:=(Puts.row p11 r17_10 nx17_67)
      have r17_12:=(Qa7.row q12 r17_11 (Qbj nx17_67 QbI))
      refine QbJ (Qaz _) (.int .u64 (wv (wget KK i))) kj kj (fun W hR=>(Qam 46 _ gd17 i 46 _ (.int .u64 (wv (wget KK i))) _ (Qaa (Qaa r17_12 (Qai _)) hR) rfl kj ((Qas _ _ _ (Nat.lt_of_lt_of_eq (by omega) (show Qc6.length=80 from rfl).symm)).trans (congrArg (fun z=>some (Value.int .u64 z)) (QnI i hlt117))) kj)) ?_
      refine QaL (Qaz _) (.int .u64 (wv (((((((rnds KK (w80 b) s i).h)+((((((rr ((rnds KK (w80 b) s i).e) 14))^^^((rr ((rnds KK (w80 b) s i).e) 18))))^^^((rr ((rnds KK (w80 b) s i).e) 41))))))+((((((rnds KK (w80 b) s i).e)&&&((rnds KK (w80 b) s i).f)))^^^((((~~~((rnds KK (w80 b) s i).e)))&&&((rnds KK (w80 b) s i).g)))))))+((wget KK i))))) kj kj (fun W=>(Qan (u:=.int .u64 (IntKind.u64.wrap (wv (((((rnds KK (w80 b) s i).h)+((((((rr ((rnds KK (w80 b) s i).e) 14))^^^((rr ((rnds KK (w80 b) s i).e) 18))))^^^((rr ((rnds KK (w80 b) s i).e) 41))))))+((((((rnds KK (w80 b) s i).e)&&&((rnds KK (w80 b) s i).f)))^^^((((~~~((rnds KK (w80 b) s i).e)))&&&((rnds KK (w80 b) s i).g))))))+wv (wget KK i)))) kj (congrArg (Value.int .u64) (w_add _ _)))) ?_
      refine QaL (Qaz _) (.slice a9 ((((w80 b).map wv).take 80).length) c9) kj kj (fun W=>kj) ?_
      refine QaL (Qaz _) (.int .i64 ((i:Nat):Int)) kj kj (fun W=>kj) ?_
      refine QaL (Qaz _) (.pointer (some ⟨gcw_70,ocw_70+i,none⟩)) kj kj (fun W=>(Qc9 86 _ _ .i64 i gcw_70 ocw_70 ((((w80 b).map wv).take 80).length) c9 46 a9 _ haw_70 rfl rfl kj kj kj kj (Nat.lt_of_lt_of_eq (show i<80 by omega) hnw_70.symm))) ?_
      refine QbJ (Qaz _) (.int .u64 (wv (wget (w80 b) i))) kj kj (fun W hR=>(Qb7 46 _ _ (.int .u64 (wv (wget (w80 b) i))) (((Below.cell (Rely.Ext.trans (Qai _) hR) hlw_70).trans (hcw_70 i (Nat.lt_of_lt_of_eq (show i<80 by omega) hnw_70.symm))).trans (congrArg (fun z=>some (Value.int .u64 z)) (Qep (w80 b) 80 i hlt117))) rfl kj kj)) ?_
      refine QdE (hF _ fun W13 e13=>?_)
      simp only [List.nil_append,List.cons_append,List.take_succ_cons,List.take_zero,List.drop_succ_cons,List.drop_zero,finE,up]
      clear hF
      have x13:Ext w W13:=Ext.tr xx6 e13
      refine Qab (.int .u64 (wv (((((((((rnds KK (w80 b) s i).h)+((((((rr ((rnds KK (w80 b) s i).e) 14))^^^((rr ((rnds KK (w80 b) s i).e) 18))))^^^((rr ((rnds KK (w80 b) s i).e) 41))))))+((((((rnds KK (w80 b) s i).e)&&&((rnds KK (w80 b) s i).f)))^^^((((~~~((rnds KK (w80 b) s i).e)))&&&((rnds KK (w80 b) s i).g)))))))+((wget KK i))))+((wget (w80 b) i))))) 156 rfl kj (Qan (u:=.int .u64 (IntKind.u64.wrap (wv (((((((rnds KK (w80 b) s i).h)+((((((rr ((rnds KK (w80 b) s i).e) 14))^^^((rr ((rnds KK (w80 b) s i).e) 18))))^^^((rr ((rnds KK (w80 b) s i).e) 41))))))+((((((rnds KK (w80 b) s i).e)&&&((rnds KK (w80 b) s i).f)))^^^((((~~~((rnds KK (w80 b) s i).e)))&&&((rnds KK (w80 b) s i).g)))))))+((wget KK i)))+wv (wget (w80 b) i)))) kj (congrArg (Value.int .u64) (w_add _ _))) ?_
      refine Qab (.int .u64 (wv (((((((((rnds KK (w80 b) s i).h)+((((((rr ((rnds KK (w80 b) s i).e) 14))^^^((rr ((rnds KK (w80 b) s i).e) 18))))^^^((rr ((rnds KK (w80 b) s i).e) 41))))))+((((((rnds KK (w80 b) s i).e)&&&((rnds KK (w80 b) s i).f)))^^^((((~~~((rnds KK (w80 b) s i).e)))&&&((rnds KK (w80 b) s i).g)))))))+((wget KK i))))+((wget (w80 b) i))))) 18 rfl kj kj ?_
      refine Qaf ?_
      refine hK78 _ _ ?_
      refine wp_seq_k fun K79 hK79=>?_
      refine Qbb 28 [⟨none,[(16,none)]⟩,⟨none,[(157,some 0)]⟩,⟨none,[(158,some 1)]⟩,⟨none,[(16,none)]⟩,⟨none,[(160,some 3)]⟩,⟨none,[(161,some 4)]⟩,⟨none,[(159,some 2),(162,some 5)]⟩,⟨none,[(16,none)]⟩,⟨none,[(164,some 7)]⟩,⟨none,[(165,some 8)]⟩,⟨none,[(163,some 6),(166,some 9)]⟩,⟨none,[(16,none)]⟩,⟨none,[(168,some 11)]⟩,⟨none,[(16,none)]⟩,⟨none,[(170,some 13)]⟩,⟨none,[(169,some 12),(171,some 14)]⟩,⟨none,[(16,none)]⟩,⟨none,[(173,some 16)]⟩,⟨none,[(16,none)]⟩,⟨none,[(175,some 18)]⟩,⟨none,[(174,some 17),(176,some 19)]⟩,⟨none,[(172,some 15),(177,some 20)]⟩,⟨none,[(16,none)]⟩,⟨none,[(179,some 22)]⟩,⟨none,[(16,none)]⟩,⟨none,[(181,some 24)]⟩,⟨none,[(180,some 23),(182,some 25)]⟩,⟨none,[(178,some 21),(183,some 26)]⟩] kj kj fun F hF=>?_
      refine QaL (Qaz _) (.pointer (some ⟨g67,0,none⟩)) kj kj (fun W=>kj) ?_
      have r67_13:=(Qaa q67_6 e13)
      refine QbJ (Qaz _) (.int .u64 (wv (rnds KK (w80 b) s i).a)) kj kj (fun W hR=>(Qam 46 _ g67 0 85 _ (.int .u64 (wv (rnds KK (w80 b) s i).a)) _ (Qaa (Qaa r67_13 (Qai _)) hR) rfl kj kj kj)) ?_
      refine QdF (Qaz _) (.int .u64 (wv (rr ((rnds KK (w80 b) s i).a) 28))) 55 #[.int .u64 (wv (rnds KK (w80 b) s i).a),.int .u64 28] kj kj (fun W=>kj) (fun W hR=>(QfX ((rnds KK (w80 b) s i).a) 28 (28) (by decide) (by decide) (by decide)) W) ?_
      refine QaL (Qaz _) (.pointer (some ⟨g67,0,none⟩)) kj kj (fun W=>kj) ?_
      refine QbJ (Qaz _) (.int .u64 (wv (rnds KK (w80 b) s i).a)) kj kj (fun W hR=>(Qam 46 _ g67 0 85 _ (.int .u64 (wv (rnds KK (w80 b) s i).a)) _ (Qaa (Qaa r67_13 (Qai _)) hR) rfl kj kj kj)) ?_
      refine QdF (Qaz _) (.int .u64 (wv (rr ((rnds KK (w80 b) s i).a) 34))) 55 #[.int .u64 (wv (rnds KK (w80 b) s i).a),.int .u64 34] kj kj (fun W=>kj) (fun W hR=>(QfX ((rnds KK (w80 b) s i).a) 34 (34) (by decide) (by decide) (by decide)) W) ?_
      refine QaL (Qaz _) (.int .u64 (wv (((rr ((rnds KK (w80 b) s i).a) 28))^^^((rr ((rnds KK (w80 b) s i).a) 34))))) kj kj (fun W=>(Qan (u:=.int .u64 (bits .xor .u64 (wv (rr ((rnds KK (w80 b) s i).a) 28)) (wv (rr ((rnds KK (w80 b) s i).a) 34)))) kj (congrArg (Value.int .u64) (w_xor _ _)))) ?_
      refine QaL (Qaz _) (.pointer (some ⟨g67,0,none⟩)) kj kj (fun W=>kj) ?_
      refine QbJ (Qaz _) (.int .u64 (wv (rnds KK (w80 b) s i).a)) kj kj (fun W hR=>(Qam 46 _ g67 0 85 _ (.int .u64 (wv (rnds KK (w80 b) s i).a)) _ (Qaa (Qaa r67_13 (Qai _)) hR) rfl kj kj kj)) ?_
      refine QdF (Qaz _) (.int .u64 (wv (rr ((rnds KK (w80 b) s i).a) 39))) 55 #[.int .u64 (wv (rnds KK (w80 b) s i).a),.int .u64 39] kj kj (fun W=>kj) (fun W hR=>(QfX ((rnds KK (w80 b) s i).a) 39 (39) (by decide) (by decide) (by decide)) W) ?_
      refine QaL (Qaz _) (.int .u64 (wv (((((rr ((rnds KK (w80 b) s i).a) 28))^^^((rr ((rnds KK (w80 b) s i).a) 34))))^^^((rr ((rnds KK (w80 b) s i).a) 39))))) kj kj (fun W=>(Qan (u:=.int .u64 (bits .xor .u64 (wv (((rr ((rnds KK (w80 b) s i).a) 28))^^^((rr ((rnds KK (w80 b) s i).a) 34)))) (wv (rr ((rnds KK (w80 b) s i).a) 39)))) kj (congrArg (Value.int .u64) (w_xor _ _)))) ?_
      refine QaL (Qaz _) (.pointer (some ⟨g67,0,none⟩)) kj kj (fun W=>kj) ?_
      refine QbJ (Qaz _) (.int .u64 (wv (rnds KK (w80 b) s i).a)) kj kj (fun W hR=>(Qam 46 _ g67 0 85 _ (.int .u64 (wv (rnds KK (w80 b) s i).a)) _ (Qaa (Qaa r67_13 (Qai _)) hR) rfl kj kj kj)) ?_
      refine QaL (Qaz _) (.pointer (some ⟨g67,1,none⟩)) kj kj (fun W=>kj) ?_
      refine QbJ (Qaz _) (.int .u64 (wv (rnds KK (w80 b) s i).b)) kj kj (fun W hR=>(Qam 46 _ g67 1 85 _ (.int .u64 (wv (rnds KK (w80 b) s i).b)) _ (Qaa (Qaa r67_13 (Qai _)) hR) rfl kj kj kj)) ?_
      refine QaL (Qaz _) (.int .u64 (wv (((rnds KK (w80 b) s i).a)&&&((rnds KK (w80 b) s i).b)))) kj kj (fun W=>(Qan (u:=.int .u64 (bits .and .u64 (wv ((rnds KK (w80 b) s i).a)) (wv ((rnds KK (w80 b) s i).b)))) kj (congrArg (Value.int .u64) (w_and _ _)))) ?_
      refine QaL (Qaz _) (.pointer (some ⟨g67,0,none⟩)) kj kj (fun W=>kj) ?_
      refine QbJ (Qaz _) (.int .u64 (wv (rnds KK (w80 b) s i).a)) kj kj (fun W hR=>(Qam 46 _ g67 0 85 _ (.int .u64 (wv (rnds KK (w80 b) s i).a)) _ (Qaa (Qaa r67_13 (Qai _)) hR) rfl kj kj kj)) ?_
      refine QaL (Qaz _) (.pointer (some ⟨g67,2,none⟩)) kj kj (fun W=>kj) ?_
      refine QbJ (Qaz _) (.int .u64 (wv (rnds KK (w80 b) s i).c)) kj kj (fun W hR=>(Qam 46 _ g67 2 85 _ (.int .u64 (wv (rnds KK (w80 b) s i).c)) _ (Qaa (Qaa r67_13 (Qai _)) hR) rfl kj kj kj)) ?_
      refine QaL (Qaz _) (.int .u64 (wv (((rnds KK (w80 b) s i).a)&&&((rnds KK (w80 b) s i).c)))) kj kj (fun W=>(Qan (u:=.int .u64 (bits .and .u64 (wv ((rnds KK (w80 b) s i).a)) (wv ((rnds KK (w80 b) s i).c)))) kj (congrArg (Value.int .u64) (w_and _ _)))) ?_
      refine QaL (Qaz _) (.int .u64 (wv (((((rnds KK (w80 b) s i).a)&&&((rnds KK (w80 b) s i).b)))^^^((((rnds KK (w80 b) s i).a)&&&((rnds KK (w80 b) s i).c)))))) kj kj (fun W=>(Qan (u:=.int .u64 (bits .xor .u64 (wv (((rnds KK (w80 b) s i).a)&&&((rnds KK (w80 b) s i).b))) (wv (((rnds KK (w80 b) s i).a)&&&((rnds KK (w80 b) s i).c))))) kj (congrArg (Value.int .u64) (w_xor _ _)))) ?_
      refine QaL (Qaz _) (.pointer (some ⟨g67,1,none⟩)) kj kj (fun W=>kj) ?_
      refine QbJ (Qaz _) (.int .u64 (wv (rnds KK (w80 b) s i).b)) kj kj (fun W hR=>(Qam 46 _ g67 1 85 _ (.int .u64 (wv (rnds KK (w80 b) s i).b)) _ (Qaa (Qaa r67_13 (Qai _)) hR) rfl kj kj kj)) ?_
      refine QaL (Qaz _) (.pointer (some ⟨g67,2,none⟩)) kj kj (fun W=>kj) ?_
      refine QbJ (Qaz _) (.int .u64 (wv (rnds KK (w80 b) s i).c)) kj kj (fun W hR=>(Qam 46 _ g67 2 85 _ (.int .u64 (wv (rnds KK (w80 b) s i).c)) _ (Qaa (Qaa r67_13 (Qai _)) hR) rfl kj kj kj)) ?_
      refine QaL (Qaz _) (.int .u64 (wv (((rnds KK (w80 b) s i).b)&&&((rnds KK (w80 b) s i).c)))) kj kj (fun W=>(Qan (u:=.int .u64 (bits .and .u64 (wv ((rnds KK (w80 b) s i).b)) (wv ((rnds KK (w80 b) s i).c)))) kj (congrArg (Value.int .u64) (w_and _ _)))) ?_
      refine QaL (Qaz _) (.int .u64 (wv (((((((rnds KK (w80 b) s i).a)&&&((rnds KK (w80 b) s i).b)))^^^((((rnds KK (w80 b) s i).a)&&&((rnds KK (w80 b) s i).c)))))^^^((((rnds KK (w80 b) s i).b)&&&((rnds KK (w80 b) s i).c)))))) kj kj (fun W=>(Qan (u:=.int .u64 (bits .xor .u64 (wv (((((rnds KK (w80 b) s i).a)&&&((rnds KK (w80 b) s i).b)))^^^((((rnds KK (w80 b) s i).a)&&&((rnds KK (w80 b) s i).c))))) (wv (((rnds KK (w80 b) s i).b)&&&((rnds KK (w80 b) s i).c))))) kj (congrArg (Value.int .u64) (w_xor _ _)))) ?_
      refine QdE (hF _ fun W14 e14=>?_)
      simp only [List.nil_append,List.cons_append,List.take_succ_cons,List.take_zero,List.drop_succ_cons,List.drop_zero,finE,up]
      clear hF
      have x14:Ext w W14:=Ext.tr x13 e14
      refine Qab (.int .u64 (wv (((((((rr ((rnds KK (w80 b) s i).a) 28))^^^((rr ((rnds KK (w80 b) s i).a) 34))))^^^((rr ((rnds KK (w80 b) s i).a) 39))))+((((((((rnds KK (w80 b) s i).a)&&&((rnds KK (w80 b) s i).b)))^^^((((rnds KK (w80 b) s i).a)&&&((rnds KK (w80 b) s i).c)))))^^^((((rnds KK (w80 b) s i).b)&&&((rnds KK (w80 b) s i).c)))))))) 185 rfl kj (Qan (u:=.int .u64 (IntKind.u64.wrap (wv (((((rr ((rnds KK (w80 b) s i).a) 28))^^^((rr ((rnds KK (w80 b) s i).a) 34))))^^^((rr ((rnds KK (w80 b) s i).a) 39)))+wv (((((((rnds KK (w80 b) s i).a)&&&((rnds KK (w80 b) s i).b)))^^^((((rnds KK (w80 b) s i).a)&&&((rnds KK (w80 b) s i).c)))))^^^((((rnds KK (w80 b) s i).b)&&&((rnds KK (w80 b) s i).c))))))) kj (congrArg (Value.int .u64) (w_add _ _))) ?_
      refine Qab (.int .u64 (wv (((((((rr ((rnds KK (w80 b) s i).a) 28))^^^((rr ((rnds KK (w80 b) s i).a) 34))))^^^((rr ((rnds KK (w80 b) s i).a) 39))))+((((((((rnds KK (w80 b) s i).a)&&&((rnds KK (w80 b) s i).b)))^^^((((rnds KK (w80 b) s i).a)&&&((rnds KK (w80 b) s i).c)))))^^^((((rnds KK (w80 b) s i).b)&&&((rnds KK (w80 b) s i).c)))))))) 19 rfl kj kj ?_
      refine Qaf ?_
      refine hK79 _ _ ?_
      refine wp_seq_k fun K80 hK80=>?_
      refine wp_seq_k fun K81 hK81=>?_
      refine Qac ?_
      refine Qab (.int .i64 7) 20 rfl kj kj ?_
      refine Qaf ?_
      refine hK81 _ _ ?_
      refine wp_block ?_
      have r67_14:=(Qaa r67_13 e14)
      refine QaI (fun (s7:Nat)=>[(2,.pointer (some ⟨g2,0,none⟩)),(3,.pointer (some ⟨g4,0,none⟩)),(6,.slice (some ⟨gd17,0,none⟩) 80 80),(7,.slice am20 ((padT t).length) cm20),(8,.int .i64 ((128*m:Nat):Int)),(9,.slice a9 ((((w80 b).map wv).take 80).length) c9),(16,.pointer (some ⟨g67,0,none⟩)),(17,.int .i64 ((i:Nat):Int)),(18,.int .u64 (wv (((((((((rnds KK (w80 b) s i).h)+((((((rr ((rnds KK (w80 b) s i).e) 14))^^^((rr ((rnds KK (w80 b) s i).e) 18))))^^^((rr ((rnds KK (w80 b) s i).e) 41))))))+((((((rnds KK (w80 b) s i).e)&&&((rnds KK (w80 b) s i).f)))^^^((((~~~((rnds KK (w80 b) s i).e)))&&&((rnds KK (w80 b) s i).g)))))))+((wget KK i))))+((wget (w80 b) i))))),(19,.int .u64 (wv (((((((rr ((rnds KK (w80 b) s i).a) 28))^^^((rr ((rnds KK (w80 b) s i).a) 34))))^^^((rr ((rnds KK (w80 b) s i).a) 39))))+((((((((rnds KK (w80 b) s i).a)&&&((rnds KK (w80 b) s i).b)))^^^((((rnds KK (w80 b) s i).a)&&&((rnds KK (w80 b) s i).c)))))^^^((((rnds KK (w80 b) s i).b)&&&((rnds KK (w80 b) s i).c)))))))),(20,.int .i64 ((s7:Nat):Int))]) (fun (s7:Nat) W=>(s7≤7)∧(W.heap[g67]? = some (.cells (ints .u64 (shf [wv (rnds KK (w80 b) s i).a,wv (rnds KK (w80 b) s i).b,wv (rnds KK (w80 b) s i).c,wv (rnds KK (w80 b) s i).d,wv (rnds KK (w80 b) s i).e,wv (rnds KK (w80 b) s i).f,wv (rnds KK (w80 b) s i).g,wv (rnds KK (w80 b) s i).h] s7)) 85))∧(Qa7 [g67] W14 W)∧(Ext w W)) (fun (s7:Nat)=>s7) 7 ⟨rfl,rfl,rfl,rfl,rfl,rfl,rfl,rfl,rfl,rfl,rfl,trivial⟩ ⟨(qR _),(QaB r67_14 (show _=shf _ 7 from rfl)),(Qa7.refl [g67] W14),x14⟩ fun s7 X7 V7 hI7=>?_
      obtain ⟨j,hs7⟩:∃ z,z=s7:=⟨_,rfl⟩
      subst hs7
      obtain ⟨hj,q67_7,kk7,xx7⟩:=hI7
      replace hj:j≤7:=hj
      replace q67_7:V7.heap[g67]? = some (.cells (ints .u64 (shf [wv (rnds KK (w80 b) s i).a,wv (rnds KK (w80 b) s i).b,wv (rnds KK (w80 b) s i).c,wv (rnds KK (w80 b) s i).d,wv (rnds KK (w80 b) s i).e,wv (rnds KK (w80 b) s i).f,wv (rnds KK (w80 b) s i).g,wv (rnds KK (w80 b) s i).h] j)) 85):=q67_7
      replace kk7:Qa7 [g67] W14 V7:=kk7
      replace xx7:Ext w V7:=xx7
      have q15:=kk7
      refine wp_seq_k fun K82 hK82=>?_
      refine wp_seq_k fun K83 hK83=>?_
      refine Qac ?_
      refine Qab (.int .i64 ((j:Nat):Int)) 186 rfl kj kj ?_
      refine Qab (.bool (decide (((j:Nat):Int)>0))) 187 rfl kj kj ?_
      refine Qaf ?_
      refine hK83 _ _ ?_
      refine Qa5 (t:=decide (((j:Nat):Int)>0)) kj (fun c84=>?_) (fun c84=>?_)
      ·skip
       have hj0:0<j:=by have:=of_decide_eq_true c84; omega
       refine wp_skip ?_
       refine hK82 _ _ ?_
       refine wp_seq_k fun K85 hK85=>?_
       refine wp_block ?_
       refine Qac ?_
       refine Qab (.int .i64 ((j:Nat):Int)) 190 rfl kj kj ?_
       refine Qab (.int .i64 ((j:Nat):Int)) 191 rfl kj kj ?_
       refine Qab (.int .i64 (((j-1:Nat):Int))) 192 rfl kj (Qan (u:=.int .i64 (IntKind.i64.wrap (((j:Nat):Int)-1))) kj (congrArg (Value.int .i64) (i64n _ _ (by omega) (by omega)))) ?_
       refine Qab (.pointer (some ⟨g67,j-1,none⟩)) 193 rfl kj (QaD _ _ _ .i64 (j-1) _ 8 46 rfl kj kj kj kj (by omega)) ?_
       refine Qab (.int .u64 (nth (shf [wv (rnds KK (w80 b) s i).a,wv (rnds KK (w80 b) s i).b,wv (rnds KK (w80 b) s i).c,wv (rnds KK (w80 b) s i).d,wv (rnds KK (w80 b) s i).e,wv (rnds KK (w80 b) s i).f,wv (rnds KK (w80 b) s i).g,wv (rnds KK (w80 b) s i).h] j) (j-1))) 194 rfl kj (Qam 46 _ g67 (j-1) 85 _ (.int .u64 (nth (shf [wv (rnds KK (w80 b) s i).a,wv (rnds KK (w80 b) s i).b,wv (rnds KK (w80 b) s i).c,wv (rnds KK (w80 b) s i).d,wv (rnds KK (w80 b) s i).e,wv (rnds KK (w80 b) s i).f,wv (rnds KK (w80 b) s i).g,wv (rnds KK (w80 b) s i).h] j) (j-1))) _ q67_7 rfl kj (Qas _ _ _ (Nat.lt_of_lt_of_eq (by omega) (Qkp hj).symm)) kj) ?_
       refine Qab (.pointer (some ⟨g67,j,none⟩)) 195 rfl kj (QaD _ _ _ .i64 (j) _ 8 46 rfl kj kj kj kj (by omega)) ?_
       refine Qak g67 _ (ints .u64 ((shf [wv (rnds KK (w80 b) s i).a,wv (rnds KK (w80 b) s i).b,wv (rnds KK (w80 b) s i).c,wv (rnds KK (w80 b) s i).d,wv (rnds KK (w80 b) s i).e,wv (rnds KK (w80 b) s i).f,wv (rnds KK (w80 b) s i).g,wv (rnds KK (w80 b) s i).h] j).set j (nth (shf [wv (rnds KK (w80 b) s i).a,wv (rnds KK (w80 b) s i).b,wv (rnds KK (w80 b) s i).c,wv (rnds KK (w80 b) s i).d,wv (rnds KK (w80 b) s i).e,wv (rnds KK (w80 b) s i).f,wv (rnds KK (w80 b) s i).g,wv (rnds KK (w80 b) s i).h] j) (j-1)))) 85 q67_7 rfl kj (Qa1 46 _ _ g67 j 85 _ _ q67_7 rfl kj kj kj (Nat.lt_of_lt_of_eq (by omega) (Qkp hj).symm)) fun W16 p16 r67_16=>?_
       have x16:Ext w W16:=Puts.ext p16 xx7 b67
       refine Qaf ?_
       refine hK85 _ _ ?_
       refine Qac ?_
       refine Qab (.int .i64 ((j:Nat):Int)) 188 rfl kj kj ?_
       refine Qab (.int .i64 (((j-1:Nat):Int))) 189 rfl kj (Qan (u:=.int .i64 (IntKind.i64.wrap (((j:Nat):Int)-1))) kj (congrArg (Value.int .i64) (i64n _ _ (by omega) (by omega)))) ?_
       refine Qab (.int .i64 (((j-1:Nat):Int))) 20 rfl kj kj ?_
       refine Qaf ?_
       repeat (first | with_reducible refine goX1 ?_ | with_reducible refine goX2 ?_ | with_reducible refine goX3 ?_)
       exact QaA (j-1) ⟨rfl,rfl,rfl,rfl,rfl,rfl,rfl,rfl,rfl,rfl,rfl,trivial⟩ ⟨(by omega),(QaB r67_16 (Qog hj0 hj)),(Qa7.puts q15 p16 (.inl (by simp))),x16⟩ (by show j-1<j; omega)
      ·skip
       have hj0:j=0:=by have:=of_decide_eq_false c84; omega
       have r67_15_86:V7.heap[g67]? = some (.cells (ints .u64 ([wv (rnds KK (w80 b) s i).a,wv (rnds KK (w80 b) s i).a,wv (rnds KK (w80 b) s i).b,wv (rnds KK (w80 b) s i).c,wv (rnds KK (w80 b) s i).d,wv (rnds KK (w80 b) s i).e,wv (rnds KK (w80 b) s i).f,wv (rnds KK (w80 b) s i).g])) 85):=QaB q67_7 (by rw [hj0]; rfl)
       refine wp_exit ?_
       refine hK80 _ _ ?_
       refine wp_seq_k fun K87 hK87=>?_
       refine Qac ?_
       refine Qab (.pointer (some ⟨g67,4,none⟩)) 196 rfl kj kj ?_
       refine Qab (.int .u64 (wv (rnds KK (w80 b) s i).d)) 197 rfl kj (Qam 46 _ g67 4 85 _ (.int .u64 (wv (rnds KK (w80 b) s i).d)) _ r67_15_86 rfl kj kj kj) ?_
       refine Qab (.int .u64 (wv (((((((((rnds KK (w80 b) s i).h)+((((((rr ((rnds KK (w80 b) s i).e) 14))^^^((rr ((rnds KK (w80 b) s i).e) 18))))^^^((rr ((rnds KK (w80 b) s i).e) 41))))))+((((((rnds KK (w80 b) s i).e)&&&((rnds KK (w80 b) s i).f)))^^^((((~~~((rnds KK (w80 b) s i).e)))&&&((rnds KK (w80 b) s i).g)))))))+((wget KK i))))+((wget (w80 b) i))))) 198 rfl kj kj ?_
       refine Qab (.int .u64 (wv (((rnds KK (w80 b) s i).d)+((((((((((rnds KK (w80 b) s i).h)+((((((rr ((rnds KK (w80 b) s i).e) 14))^^^((rr ((rnds KK (w80 b) s i).e) 18))))^^^((rr ((rnds KK (w80 b) s i).e) 41))))))+((((((rnds KK (w80 b) s i).e)&&&((rnds KK (w80 b) s i).f)))^^^((((~~~((rnds KK (w80 b) s i).e)))&&&((rnds KK (w80 b) s i).g)))))))+((wget KK i))))+((wget (w80 b) i))))))) 199 rfl kj (Qan (u:=.int .u64 (IntKind.u64.wrap (wv ((rnds KK (w80 b) s i).d)+wv (((((((((rnds KK (w80 b) s i).h)+((((((rr ((rnds KK (w80 b) s i).e) 14))^^^((rr ((rnds KK (w80 b) s i).e) 18))))^^^((rr ((rnds KK (w80 b) s i).e) 41))))))+((((((rnds KK (w80 b) s i).e)&&&((rnds KK (w80 b) s i).f)))^^^((((~~~((rnds KK (w80 b) s i).e)))&&&((rnds KK (w80 b) s i).g)))))))+((wget KK i))))+((wget (w80 b) i)))))) kj (congrArg (Value.int .u64) (w_add _ _))) ?_
       refine Qab (.pointer (some ⟨g67,4,none⟩)) 200 rfl kj kj ?_
       refine Qak g67 _ (ints .u64 ([wv (rnds KK (w80 b) s i).a,wv (rnds KK (w80 b) s i).a,wv (rnds KK (w80 b) s i).b,wv (rnds KK (w80 b) s i).c,(wv (((rnds KK (w80 b) s i).d)+((((((((((rnds KK (w80 b) s i).h)+((((((rr ((rnds KK (w80 b) s i).e) 14))^^^((rr ((rnds KK (w80 b) s i).e) 18))))^^^((rr ((rnds KK (w80 b) s i).e) 41))))))+((((((rnds KK (w80 b) s i).e)&&&((rnds KK (w80 b) s i).f)))^^^((((~~~((rnds KK (w80 b) s i).e)))&&&((rnds KK (w80 b) s i).g)))))))+((wget KK i))))+((wget (w80 b) i)))))),wv (rnds KK (w80 b) s i).e,wv (rnds KK (w80 b) s i).f,wv (rnds KK (w80 b) s i).g])) 85 r67_15_86 rfl kj (Qa1 46 _ _ g67 4 85 _ _ r67_15_86 rfl kj kj kj (show 4<8 by decide)) fun W16 p16 r67_16=>?_
       have x16:Ext w W16:=Puts.ext p16 xx7 b67
       refine Qaf ?_
       refine hK87 _ _ ?_
       refine Qac ?_
       refine Qab (.int .u64 (wv (((((((((rnds KK (w80 b) s i).h)+((((((rr ((rnds KK (w80 b) s i).e) 14))^^^((rr ((rnds KK (w80 b) s i).e) 18))))^^^((rr ((rnds KK (w80 b) s i).e) 41))))))+((((((rnds KK (w80 b) s i).e)&&&((rnds KK (w80 b) s i).f)))^^^((((~~~((rnds KK (w80 b) s i).e)))&&&((rnds KK (w80 b) s i).g)))))))+((wget KK i))))+((wget (w80 b) i))))) 201 rfl kj kj ?_
       refine Qab (.int .u64 (wv (((((((rr ((rnds KK (w80 b) s i).a) 28))^^^((rr ((rnds KK (w80 b) s i).a) 34))))^^^((rr ((rnds KK (w80 b) s i).a) 39))))+((((((((rnds KK (w80 b) s i).a)&&&((rnds KK (w80 b) s i).b)))^^^((((rnds KK (w80 b) s i).a)&&&((rnds KK (w80 b) s i).c)))))^^^((((rnds KK (w80 b) s i).b)&&&((rnds KK (w80 b) s i).c)))))))) 202 rfl kj kj ?_
       refine Qab (.int .u64 (wv (((((((((((rnds KK (w80 b) s i).h)+((((((rr ((rnds KK (w80 b) s i).e) 14))^^^((rr ((rnds KK (w80 b) s i).e) 18))))^^^((rr ((rnds KK (w80 b) s i).e) 41))))))+((((((rnds KK (w80 b) s i).e)&&&((rnds KK (w80 b) s i).f)))^^^((((~~~((rnds KK (w80 b) s i).e)))&&&((rnds KK (w80 b) s i).g)))))))+((wget KK i))))+((wget (w80 b) i))))+((((((((rr ((rnds KK (w80 b) s i).a) 28))^^^((rr ((rnds KK (w80 b) s i).a) 34))))^^^((rr ((rnds KK (w80 b) s i).a) 39))))+((((((((rnds KK (w80 b) s i).a)&&&((rnds KK (w80 b) s i).b)))^^^((((rnds KK (w80 b) s i).a)&&&((rnds KK (w80 b) s i).c)))))^^^((((rnds KK (w80 b) s i).b)&&&((rnds KK (w80 b) s i).c)))))))))) 203 rfl kj (Qan (u:=.int .u64 (IntKind.u64.wrap (wv (((((((((rnds KK (w80 b) s i).h)+((((((rr ((rnds KK (w80 b) s i).e) 14))^^^((rr ((rnds KK (w80 b) s i).e) 18))))^^^((rr ((rnds KK (w80 b) s i).e) 41))))))+((((((rnds KK (w80 b) s i).e)&&&((rnds KK (w80 b) s i).f)))^^^((((~~~((rnds KK (w80 b) s i).e)))&&&((rnds KK (w80 b) s i).g)))))))+((wget KK i))))+((wget (w80 b) i)))+wv (((((((rr ((rnds KK (w80 b) s i).a) 28))^^^((rr ((rnds KK (w80 b) s i).a) 34))))^^^((rr ((rnds KK (w80 b) s i).a) 39))))+((((((((rnds KK (w80 b) s i).a)&&&((rnds KK (w80 b) s i).b)))^^^((((rnds KK (w80 b) s i).a)&&&((rnds KK (w80 b) s i).c)))))^^^((((rnds KK (w80 b) s i).b)&&&((rnds KK (w80 b) s i).c))))))))) kj (congrArg (Value.int .u64) (w_add _ _))) ?_
       refine Qab (.pointer (some ⟨g67,0,none⟩)) 204 rfl kj kj ?_
       refine Qak g67 _ (ints .u64 ([(wv (((((((((((rnds KK (w80 b) s i).h)+((((((rr ((rnds KK (w80 b) s i).e) 14))^^^((rr ((rnds KK (w80 b) s i).e) 18))))^^^((rr ((rnds KK (w80 b) s i).e) 41))))))+((((((rnds KK (w80 b) s i).e)&&&((rnds KK (w80 b) s i).f)))^^^((((~~~((rnds KK (w80 b) s i).e)))&&&((rnds KK (w80 b) s i).g)))))))+((wget KK i))))+((wget (w80 b) i))))+((((((((rr ((rnds KK (w80 b) s i).a) 28))^^^((rr ((rnds KK (w80 b) s i).a) 34))))^^^((rr ((rnds KK (w80 b) s i).a) 39))))+((((((((rnds KK (w80 b) s i).a)&&&((rnds KK (w80 b) s i).b)))^^^((((rnds KK (w80 b) s i).a)&&&((rnds KK (w80 b) s i).c)))))^^^((((rnds KK (w80 b) s i).b)&&&((rnds KK (w80 b) s i).c))))))))),wv (rnds KK (w80 b) s i).a,wv (rnds KK (w80 b) s i).b,wv (rnds KK (w80 b) s i).c,(wv (((rnds KK (w80 b) s i).d)+((((((((((rnds KK (w80 b) s i).h)+((((((rr ((rnds KK (w80 b) s i).e) 14))^^^((rr ((rnds KK (w80 b) s i).e) 18))))^^^((rr ((rnds KK (w80 b) s i).e) 41))))))+((((((rnds KK (w80 b) s i).e)&&&((rnds KK (w80 b) s i).f)))^^^((((~~~((rnds KK (w80 b) s i).e)))&&&((rnds KK (w80 b) s i).g)))))))+((wget KK i))))+((wget (w80 b) i)))))),wv (rnds KK (w80 b) s i).e,wv (rnds KK (w80 b) s i).f,wv (rnds KK (w80 b) s i).g])) 85 r67_16 rfl kj (Qa1 46 _ _ g67 0 85 _ _ r67_16 rfl kj kj kj (show 0<8 by decide)) fun W17 p17 r67_17=>?_
       have x17:Ext w W17:=Puts.ext p17 x16 b67
       refine Qaf ?_
       refine hK77 _ _ ?_
       refine Qac ?_
       refine Qab (.int .i64 ((i:Nat):Int)) 118 rfl kj kj ?_
       refine Qab (.int .i64 ((i+1:Nat):Int)) 119 rfl kj (Qan (u:=.int .i64 (IntKind.i64.wrap (((i:Nat):Int)+1))) kj (congrArg (Value.int .i64) (i64n _ _ (by omega) (by omega)))) ?_
       refine Qab (.int .i64 ((i+1:Nat):Int)) 17 rfl kj kj ?_
       refine Qaf ?_
       repeat (first | with_reducible refine goX1 ?_ | with_reducible refine goX2 ?_ | with_reducible refine goX3 ?_)
       exact QaA (i+1) ⟨rfl,rfl,rfl,rfl,rfl,rfl,rfl,rfl,trivial⟩ ⟨(by omega),(QaB r67_17 (by rw [show rnds KK (w80 b) s (i+1)=rnd (wget KK i) (wget (w80 b) i) (rnds KK (w80 b) s i) from rfl]; generalize rnds KK (w80 b) s i=r; generalize wget KK i=kk; generalize wget (w80 b) i=ww; rfl)),(Qa7.puts (Qa7.puts (Qa7.keeps (Qa7.step (Qa7.step q12 e13) e14) q15 (Qf5 (.inl (by simp)) Qh4)) p16 (.inl (by simp))) p17 (.inl (by simp))),x17⟩ (by omega)
     ·skip
      have heq117:i=80:=by have:=of_decide_eq_false c76; omega
      have r67_12_88:V6.heap[g67]? = some (.cells (ints .u64 ([wv (rnds KK (w80 b) s 80).a,wv (rnds KK (w80 b) s 80).b,wv (rnds KK (w80 b) s 80).c,wv (rnds KK (w80 b) s 80).d,wv (rnds KK (w80 b) s 80).e,wv (rnds KK (w80 b) s 80).f,wv (rnds KK (w80 b) s 80).g,wv (rnds KK (w80 b) s 80).h])) 85):=QaB q67_6 (by rw [heq117])
      refine wp_exit ?_
      refine hK68 _ _ ?_
      refine wp_seq_k fun K89 hK89=>?_
      refine Qac ?_
      refine Qab (.int .i64 0) 21 rfl kj kj ?_
      refine Qaf ?_
      refine hK89 _ _ ?_
      refine wp_block ?_
      have n15_4:g67≠g4:=(Qat r4_9 l67)
      obtain ⟨r,hr9⟩:∃ z,z=rnds KK (w80 b) s 80:=⟨_,rfl⟩
      have r67_12_90:V6.heap[g67]? = some (.cells (ints .u64 (r.l.map wv)) 85):=QaB r67_12_88 (by rw [hr9]; rfl)
      have r4_10:=(Qaa r4_9 e10)
      have r4_11:=(Puts.row p11 r4_10 (Qad r4_9 l67))
      have r4_12:=(Qa7.row q12 r4_11 (Qbj (Qad r4_9 l67) QbI))
      refine QaI (fun (s8:Nat)=>[(2,.pointer (some ⟨g2,0,none⟩)),(3,.pointer (some ⟨g4,0,none⟩)),(6,.slice (some ⟨gd17,0,none⟩) 80 80),(7,.slice am20 ((padT t).length) cm20),(8,.int .i64 ((128*m:Nat):Int)),(9,.slice a9 ((((w80 b).map wv).take 80).length) c9),(16,.pointer (some ⟨g67,0,none⟩)),(21,.int .i64 ((s8:Nat):Int))]) (fun (s8:Nat) W=>(s8≤8)∧(W.heap[g4]? = some (.cells (ints .u64 ((mixW s.l r.l s8).map wv)) 85))∧(Qa7 [g4] V6 W)∧(Ext w W)) (fun (s8:Nat)=>8-s8) 0 ⟨rfl,rfl,rfl,rfl,rfl,rfl,rfl,rfl,trivial⟩ ⟨(Nat.zero_le _),(QaB r4_12 (show _=(mixW s.l r.l 0).map wv from rfl)),(Qa7.refl [g4] V6),xx6⟩ fun s8 X8 V8 hI8=>?_
      obtain ⟨i,hs8⟩:∃ z,z=s8:=⟨_,rfl⟩
      subst hs8
      obtain ⟨hi,q4_8,kk8,xx8⟩:=hI8
      replace hi:i≤8:=hi
      replace q4_8:V8.heap[g4]? = some (.cells (ints .u64 ((mixW s.l r.l i).map wv)) 85):=q4_8
      replace kk8:Qa7 [g4] V6 V8:=kk8
      replace xx8:Ext w V8:=xx8
      have q13:=kk8
      refine wp_seq_k fun K91 hK91=>?_
      refine wp_seq_k fun K92 hK92=>?_
      refine Qac ?_
      refine Qab (.int .i64 ((i:Nat):Int)) 205 rfl kj kj ?_
      refine Qab (.bool (decide (((i:Nat):Int)<8))) 206 rfl kj kj ?_
      refine Qaf ?_
      refine hK92 _ _ ?_
      refine Qa5 (t:=decide (((i:Nat):Int)<8)) kj (fun c93=>?_) (fun c93=>?_)
      ·skip
       have hlt206:i<8:=by have:=of_decide_eq_true c93; omega
       refine wp_skip ?_
       refine hK91 _ _ ?_
       refine wp_seq_k fun K94 hK94=>?_
       refine wp_block ?_
       refine Qbb 8 [⟨none,[(21,none)]⟩,⟨none,[(21,none)]⟩,⟨none,[(3,none),(210,some 1)]⟩,⟨none,[(211,some 2)]⟩,⟨none,[(21,none)]⟩,⟨none,[(16,none),(213,some 4)]⟩,⟨none,[(214,some 5)]⟩,⟨none,[(212,some 3),(215,some 6)]⟩] kj kj fun F hF=>?_
       refine QaL (Qaz _) (.int .i64 ((i:Nat):Int)) kj kj (fun W=>kj) ?_
       refine QaL (Qaz _) (.int .i64 ((i:Nat):Int)) kj kj (fun W=>kj) ?_
       refine QaL (Qaz _) (.pointer (some ⟨g4,i,none⟩)) kj kj (fun W=>(QaD _ _ _ .i64 (i) _ 8 46 rfl kj kj kj kj (by omega))) ?_
       refine QbJ (Qaz _) (.int .u64 (wv (wget s.l i))) kj kj (fun W hR=>(Qam 46 _ g4 i 85 _ (.int .u64 (wv (wget s.l i))) _ (Qaa (Qaa q4_8 (Qai _)) hR) rfl kj ((Qas _ _ _ (Nat.lt_of_lt_of_eq (by omega) (mix_len s r hi).symm)).trans (congrArg (fun z=>some (Value.int .u64 z)) (QkW s r hlt206))) kj)) ?_
       refine QaL (Qaz _) (.int .i64 ((i:Nat):Int)) kj kj (fun W=>kj) ?_
       refine QaL (Qaz _) (.pointer (some ⟨g67,i,none⟩)) kj kj (fun W=>(QaD _ _ _ .i64 (i) _ 8 46 rfl kj kj kj kj (by omega))) ?_
       have r67_13:=(Qa7.row q13 r67_12_90 (Qbj n15_4 QbI))
       refine QbJ (Qaz _) (.int .u64 (wv (wget r.l i))) kj kj (fun W hR=>(Qam 46 _ g67 i 85 _ (.int .u64 (wv (wget r.l i))) _ (Qaa (Qaa r67_13 (Qai _)) hR) rfl kj ((Qas _ _ _ (Nat.lt_of_lt_of_eq (by omega) (show (r.l.map wv).length=8 from rfl).symm)).trans (congrArg (fun z=>some (Value.int .u64 z)) (nth_map _ _))) kj)) ?_
       refine QaL (Qaz _) (.int .u64 (wv (((wget s.l i))+((wget r.l i))))) kj kj (fun W=>(Qan (u:=.int .u64 (IntKind.u64.wrap (wv (wget s.l i)+wv (wget r.l i)))) kj (congrArg (Value.int .u64) (w_add _ _)))) ?_
       refine QdE (hF _ fun W14 e14=>?_)
       simp only [List.nil_append,List.cons_append,List.take_succ_cons,List.take_zero,List.drop_succ_cons,List.drop_zero,finE,up]
       clear hF
       have x14:Ext w W14:=Ext.tr xx8 e14
       refine Qab (.pointer (some ⟨g4,i,none⟩)) 217 rfl kj (QaD _ _ _ .i64 (i) _ 8 46 rfl kj kj kj kj (by omega)) ?_
       have r4_14:=(Qaa q4_8 e14)
       refine Qak g4 _ (ints .u64 (((mixW s.l r.l i).map wv).set i (wv (((wget s.l i))+((wget r.l i)))))) 85 r4_14 rfl kj (Qa1 46 _ _ g4 i 85 _ _ r4_14 rfl kj kj kj (Nat.lt_of_lt_of_eq (by omega) (mix_len s r hi).symm)) fun W15 p15 r4_15=>?_
       have x15:Ext w W15:=Puts.ext p15 x14 b4
       refine Qaf ?_
       refine hK94 _ _ ?_
       refine Qac ?_
       refine Qab (.int .i64 ((i:Nat):Int)) 207 rfl kj kj ?_
       refine Qab (.int .i64 ((i+1:Nat):Int)) 208 rfl kj (Qan (u:=.int .i64 (IntKind.i64.wrap (((i:Nat):Int)+1))) kj (congrArg (Value.int .i64) (i64n _ _ (by omega) (by omega)))) ?_
       refine Qab (.int .i64 ((i+1:Nat):Int)) 21 rfl kj kj ?_
       refine Qaf ?_
       repeat (first | with_reducible refine goX1 ?_ | with_reducible refine goX2 ?_ | with_reducible refine goX3 ?_)
       exact QaA (i+1) ⟨rfl,rfl,rfl,rfl,rfl,rfl,rfl,rfl,trivial⟩ ⟨(by omega),(QaB r4_15 (mix_set s r hlt206)),(Qa7.puts (Qa7.step q13 e14) p15 (.inl (by simp))),x15⟩ (by show 8-(i+1)<8-i; omega)
      ·skip
       have heq206:i=8:=by have:=of_decide_eq_false c93; omega
       refine wp_exit ?_
       refine hK27 _ _ ?_
       refine Qac ?_
       refine Qab (.int .i64 ((128*m:Nat):Int)) 42 rfl kj kj ?_
       refine Qab (.int .i64 (((128*m)+128:Nat):Int)) 43 rfl kj (Qan (u:=.int .i64 (IntKind.i64.wrap (((128*m:Nat):Int)+128))) kj (congrArg (Value.int .i64) (i64n _ _ (by omega) (by omega)))) ?_
       refine Qab (.int .i64 (((128*m)+128:Nat):Int)) 8 rfl kj kj ?_
       refine Qaf ?_
       repeat (first | with_reducible refine goX1 ?_ | with_reducible refine goX2 ?_ | with_reducible refine goX3 ?_)
       exact QaA (m+1) ⟨rfl,rfl,rfl,rfl,rfl,trivial⟩ ⟨(by omega),(QaB q4_8 (by rw [heq206]; subst hr9; subst hs; subst hb; rfl)),(Qa7.keeps (Qa7.keeps (Qa7.puts (Qa7.step (Qa7.low (Qa7.step q7 e8) l9 (qT (Qa7.size q7) (qR _))) e10) p11 (.inr (qT (Qa7.size q7) (qT (qT (qT (qR _) e8.size) l9.size) l67)))) q12 (Qf5 (.inr (qT (Qa7.size q7) (qT (qT (qT (qR _) e8.size) l9.size) l67))) Qh4)) q13 (Qf5 (.inl (by simp)) Qh4)),xx8⟩ (by omega)
  ·skip
   have heq41:m=q:=by have:=of_decide_eq_false c25; omega
   have r4_7_95:V2.heap[g4]? = some (.cells (ints .u64 ([wv (absorb S0 (padT t) q).a,wv (absorb S0 (padT t) q).b,wv (absorb S0 (padT t) q).c,wv (absorb S0 (padT t) q).d,wv (absorb S0 (padT t) q).e,wv (absorb S0 (padT t) q).f,wv (absorb S0 (padT t) q).g,wv (absorb S0 (padT t) q).h])) 85):=QaB q4_2 (by rw [heq41])
   refine wp_exit ?_
   refine hK21 _ _ ?_
   refine wp_seq_k fun K96 hK96=>?_
   refine Qac ?_
   refine Qaj (ints .u8 (List.replicate 64 0)) 30 22 rfl kj kj fun g97 W8 l97 e8 r97_8=>?_
   have x8:Ext w W8:=Ext.tr xx2 e8
   have b97:w.heap.size≤g97:=qT xx2.size l97
   refine Qaf ?_
   refine hK96 _ _ ?_
   refine wp_seq_k fun K98 hK98=>?_
   refine wp_seq_k fun K99 hK99=>?_
   refine Qac ?_
   refine Qab (.int .i64 0) 23 rfl kj kj ?_
   refine Qaf ?_
   refine hK99 _ _ ?_
   refine wp_block ?_
   obtain ⟨sQ,hsQ⟩:∃ z,z=absorb S0 (padT t) q:=⟨_,rfl⟩
   have r4_8:=(Qaa r4_7_95 e8)
   have r4_8_100:W8.heap[g4]? = some (.cells (ints .u64 (sQ.l.map wv)) 85):=QaB r4_8 (by rw [hsQ]; rfl)
   refine QaI (fun (s9:Nat)=>[(2,.pointer (some ⟨g2,0,none⟩)),(3,.pointer (some ⟨g4,0,none⟩)),(22,.pointer (some ⟨g97,0,none⟩)),(23,.int .i64 ((s9:Nat):Int))]) (fun (s9:Nat) W=>(s9≤64)∧(W.heap[g97]? = some (.cells (ints .u8 (fill sQ.out 64 s9)) 30))∧(Qa7 [g97] W8 W)∧(Ext w W)) (fun (s9:Nat)=>64-s9) 0 ⟨rfl,rfl,rfl,rfl,trivial⟩ ⟨(Nat.zero_le _),(QaB r97_8 (fill_zero sQ.out 64).symm),(Qa7.refl [g97] W8),x8⟩ fun s9 X9 V9 hI9=>?_
   obtain ⟨i,hs9⟩:∃ z,z=s9:=⟨_,rfl⟩
   subst hs9
   obtain ⟨hi,q97_9,kk9,xx9⟩:=hI9
   replace hi:i≤64:=hi
   replace q97_9:V9.heap[g97]? = some (.cells (ints .u8 (fill sQ.out 64 i)) 30):=q97_9
   replace kk9:Qa7 [g97] W8 V9:=kk9
   replace xx9:Ext w V9:=xx9
   have q9:=kk9
   refine wp_seq_k fun K101 hK101=>?_
   refine wp_seq_k fun K102 hK102=>?_
   refine Qac ?_
   refine Qab (.int .i64 ((i:Nat):Int)) 218 rfl kj kj ?_
   refine Qab (.bool (decide (((i:Nat):Int)<64))) 219 rfl kj kj ?_
   refine Qaf ?_
   refine hK102 _ _ ?_
   refine Qa5 (t:=decide (((i:Nat):Int)<64)) kj (fun c103=>?_) (fun c103=>?_)
   ·skip
    have hlt219:i<64:=by have:=of_decide_eq_true c103; omega
    refine wp_skip ?_
    refine hK101 _ _ ?_
    refine wp_seq_k fun K104 hK104=>?_
    refine wp_block ?_
    refine Qac ?_
    refine Qab (.int .i64 ((i:Nat):Int)) 222 rfl kj kj ?_
    refine Qab (.int .i64 ((i:Nat):Int)) 223 rfl kj kj ?_
    refine Qab (.int .i64 ((i/8:Nat):Int)) 224 rfl kj (Qan (u:=.int .i64 (IntKind.i64.wrap (Int.tdiv (((i:Nat):Int)) (8)))) kj (congrArg (Value.int .i64) (QeR _ 8 (by omega)))) ?_
    refine Qab (.pointer (some ⟨g4,i/8,none⟩)) 225 rfl kj (QaD _ _ _ .i64 (i/8) _ 8 46 rfl kj kj kj kj (by omega)) ?_
    have r4_9:=(Qa7.row q9 r4_8_100 (Qbj (Qad r4_7_95 l97) QbI))
    refine Qab (.int .u64 (wv (wget sQ.l (i/8)))) 226 rfl kj (Qam 46 _ g4 (i/8) 85 _ (.int .u64 (wv (wget sQ.l (i/8)))) _ r4_9 rfl kj ((Qas _ _ _ (Nat.lt_of_lt_of_eq (by omega) (show (sQ.l.map wv).length=8 from rfl).symm)).trans (congrArg (fun z=>some (Value.int .u64 z)) (nth_map _ _))) kj) ?_
    refine Qab (.int .i64 ((i:Nat):Int)) 227 rfl kj kj ?_
    refine Qab (.int .i64 ((i%8:Nat):Int)) 228 rfl kj (Qan (u:=.int .i64 (Int.tmod (((i:Nat):Int)) (8))) kj (congrArg (Value.int .i64) (QcU _ 8))) ?_
    refine Qab (.int .i64 ((8*(i%8):Nat):Int)) 229 rfl kj (Qan (u:=.int .i64 (IntKind.i64.wrap (8*((i%8:Nat):Int)))) kj (congrArg (Value.int .i64) (i64n _ _ (by omega) (by omega)))) ?_
    refine Qab (.int .i64 (((56-8*(i%8):Nat):Int))) 230 rfl kj (Qan (u:=.int .i64 (IntKind.i64.wrap (56-((8*(i%8):Nat):Int)))) kj (congrArg (Value.int .i64) (i64n _ _ (by omega) (by omega)))) ?_
    refine Qab (.int .u64 (((56-8*(i%8):Nat):Int))) 231 rfl kj (Qan (u:=.int .u64 (IntKind.u64.wrap (((56-8*(i%8):Nat):Int)))) kj (congrArg (Value.int .u64) (by rw [show ∀ z:Int,IntKind.u64.wrap z=z%2^64 from fun _=>rfl]; omega))) ?_
    refine Qab (.int .u64 (wv (wget sQ.l (i/8)>>>(56-8*(i%8))))) 232 rfl kj (Qbp .shr _ _ _ _ .u64 .u64 _ _ _ rfl kj kj (QcY _ _ _ _ _ _ (by omega) (w_shr _ _ (56-8*(i%8)) rfl (by omega)))) ?_
    refine Qab (.int .u8 (nth sQ.out i)) 233 rfl kj (Qan (u:=.int .u8 (IntKind.u8.wrap (wv (wget sQ.l (i/8)>>>(56-8*(i%8)))))) kj (congrArg (Value.int .u8) (by have h9:=QiW sQ (a:=i/8) (b:=i%8) (by omega) (by omega); rwa [show 8*(i/8)+i%8=i by omega] at h9))) ?_
    refine Qab (.pointer (some ⟨g97,i,none⟩)) 234 rfl kj (QaD _ _ _ .i64 (i) _ 64 5 rfl kj kj kj kj (by omega)) ?_
    refine Qak g97 _ (ints .u8 ((fill sQ.out 64 i).set i (nth sQ.out i))) 30 q97_9 rfl kj (Qa1 5 _ _ g97 i 30 _ _ q97_9 rfl kj kj kj (Nat.lt_of_lt_of_eq (by omega) (fill_len (show sQ.out.length=64 from rfl) hi).symm)) fun W10 p10 r97_10=>?_
    have x10:Ext w W10:=Puts.ext p10 xx9 b97
    refine Qaf ?_
    refine hK104 _ _ ?_
    refine Qac ?_
    refine Qab (.int .i64 ((i:Nat):Int)) 220 rfl kj kj ?_
    refine Qab (.int .i64 ((i+1:Nat):Int)) 221 rfl kj (Qan (u:=.int .i64 (IntKind.i64.wrap (((i:Nat):Int)+1))) kj (congrArg (Value.int .i64) (i64n _ _ (by omega) (by omega)))) ?_
    refine Qab (.int .i64 ((i+1:Nat):Int)) 23 rfl kj kj ?_
    refine Qaf ?_
    repeat (first | with_reducible refine goX1 ?_ | with_reducible refine goX2 ?_ | with_reducible refine goX3 ?_)
    exact QaA (i+1) ⟨rfl,rfl,rfl,rfl,trivial⟩ ⟨(by omega),(QaB r97_10 (fill_set (show sQ.out.length=64 from rfl) hlt219)),(Qa7.puts q9 p10 (.inl (by simp))),x10⟩ (by show 64-(i+1)<64-i; omega)
   ·skip
    have heq219:i=64:=by have:=of_decide_eq_false c103; omega
    have r97_9_105:V9.heap[g97]? = some (.cells (ints .u8 (sQ.out)) 30):=QaB q97_9 (by rw [heq219]; exact fill_full (show sQ.out.length=64 from rfl))
    refine wp_exit ?_
    refine hK98 _ _ ?_
    refine wp_seq_k fun K106 hK106=>?_
    refine Qac ?_
    refine Qab (.agg (ints .u8 (sQ.out))) 235 rfl kj (Qag 30 _ g97 30 _ _ r97_9_105 rfl kj kj (isz (n:=64) kj ((Qae _ _).trans (show sQ.out.length=64 from rfl)))) ?_
    have r2_2:=(Qaa r2_1 e2)
    have r2_3:=(Qaa r2_2 e3)
    have r2_4:=(Qa7.row q4 r2_3 (Qbj (Qad r2_1 l4) QbI))
    have r2_5:=(Qaa r2_4 e5)
    have r2_6:=(Qaa r2_5 e6)
    have r2_7:=(Qa7.row q7 r2_6 (Qbj (Qad r2_1 l4) QbI))
    have r2_8:=(Qaa r2_7 e8)
    have r2_9:=(Qa7.row q9 r2_8 (Qbj (Qad r2_7 l97) QbI))
    refine Qak g2 _ (ints .u8 (sQ.out)) 30 r2_9 rfl kj (Qah 30 _ _ g2 30 _ _ r2_9 rfl kj kj (isz (n:=64) kj ((Qae _ _).trans (show sQ.out.length=64 from rfl))) (eqsz (n:=64) ((Qae _ _).trans (qZ (n:=64))) ((Qae _ _).trans (show sQ.out.length=64 from rfl))) (ints_one _ _)) fun W10 p10 r2_10=>?_
    have x10:Ext w W10:=Puts.ext p10 xx9 b2
    refine Qaf ?_
    refine hK106 _ _ ?_
    refine wp_ret ?_
    repeat (first | with_reducible refine goR1 ?_ | with_reducible refine goR2 ?_)
    exact (show bodyPost _ _ _ .ret _ _ from ret1 (.agg (ints .u8 (sQ.out))) rfl (QaC g2 30 _ r2_10 kj kj (isz (n:=64) kj ((Qae _ _).trans (show sQ.out.length=64 from rfl)))) ⟨by rw [show dig t=sQ.out by unfold dig; rw [hq,Nat.mul_div_cancel_left _ (by decide),hsQ]],x10⟩)
end Go.Proofs.YtdoadngmgmdlbaaDoor.Sha5
end
section
namespace Go.Proofs.YtdoadngmgmdlbaaDoor.Sha5
open Go Go.RowKit
open Rely Auto Own
theorem Qbt {ds : List Int} (h:ds.length=64):(ds.take 32).length=32:=by rw [List.length_take,h]; rfl
theorem Qby {ds : List Int} (h:ds.length=64):(ds.drop 32).length=32:=by rw [List.length_drop,h]
theorem Qqt {ds : List Int} {i:Nat} (h:i<32):nth ds i=nth (ds.take 32) i:=by
  unfold nth
  rw [List.getD_eq_getElem?_getD,List.getD_eq_getElem?_getD,List.getElem?_take,if_pos h]
theorem Qqu (ds : List Int) (i:Nat):nth ds (32+i)=nth (ds.drop 32) i:=by
  unfold nth
  rw [List.getD_eq_getElem?_getD,List.getD_eq_getElem?_getD,List.getElem?_drop]
theorem Qli (ds : List Int) (hd:ds.length=64) (w:World):Calls Tryd.prog 23 #[.agg (ints .u8 ds)] w (Ret w (.tuple #[.agg (ints .u8 (ds.take 32)),.agg (ints .u8 (ds.drop 32))])):=by
 refine enter 24 [(0,.agg (ints .u8 (ds)))] Tryd.func23 rfl rfl kj rfl ?_
 refine wp_seq_k fun K1 hK1=>?_
 refine Qac ?_
 refine Qaj (ints .u8 (ds)) 30 1 rfl kj kj fun g2 W1 l2 e1 r2_1=>?_
 have x1:Ext w W1:=Ext.tr (Rely.Ext.refl w) e1
 have b2:w.heap.size≤g2:=qT (Rely.Ext.refl w).size l2
 refine Qaj (ints .u8 (List.replicate 32 0)) 23 2 rfl kj kj fun g3 W2 l3 e2 r3_2=>?_
 have x2:Ext w W2:=Ext.tr x1 e2
 have b3:w.heap.size≤g3:=qT x1.size l3
 refine Qaj (ints .u8 (List.replicate 32 0)) 23 3 rfl kj kj fun g4 W3 l4 e3 r4_3=>?_
 have x3:Ext w W3:=Ext.tr x2 e3
 have b4:w.heap.size≤g4:=qT x2.size l4
 refine Qaf ?_
 refine hK1 _ _ ?_
 refine wp_seq_k fun K5 hK5=>?_
 refine Qac ?_
 refine Qaj (ints .u8 (List.replicate 32 0)) 23 4 rfl kj kj fun g6 W4 l6 e4 r6_4=>?_
 have x4:Ext w W4:=Ext.tr x3 e4
 have b6:w.heap.size≤g6:=qT x3.size l6
 refine Qaf ?_
 refine hK5 _ _ ?_
 refine wp_seq_k fun K7 hK7=>?_
 refine Qac ?_
 refine Qaj (ints .u8 (List.replicate 32 0)) 23 5 rfl kj kj fun g8 W5 l8 e5 r8_5=>?_
 have x5:Ext w W5:=Ext.tr x4 e5
 have b8:w.heap.size≤g8:=qT x4.size l8
 refine Qaf ?_
 refine hK7 _ _ ?_
 refine wp_seq_k fun K9 hK9=>?_
 refine wp_seq_k fun K10 hK10=>?_
 refine Qac ?_
 refine Qab (.int .i64 0) 6 rfl kj kj ?_
 refine Qaf ?_
 refine hK10 _ _ ?_
 refine wp_block ?_
 have nx54:g8≠g6:=(Qat r6_4 l8)
 have r6_5:=(Qaa r6_4 e5)
 refine QaI (fun (s1:Nat)=>[(1,.pointer (some ⟨g2,0,none⟩)),(2,.pointer (some ⟨g3,0,none⟩)),(3,.pointer (some ⟨g4,0,none⟩)),(4,.pointer (some ⟨g6,0,none⟩)),(5,.pointer (some ⟨g8,0,none⟩)),(6,.int .i64 ((s1:Nat):Int))]) (fun (s1:Nat) W=>(s1≤32)∧(W.heap[g6]? = some (.cells (ints .u8 (fill (ds.take 32) 32 s1)) 23))∧(W.heap[g8]? = some (.cells (ints .u8 (fill (ds.drop 32) 32 s1)) 23))∧(Qa7 [g6,g8] W5 W)∧(Ext w W)) (fun (s1:Nat)=>32-s1) 0 ⟨rfl,rfl,rfl,rfl,rfl,rfl,trivial⟩ ⟨(Nat.zero_le _),(QaB r6_5 (fill_zero (ds.take 32) 32).symm),(QaB r8_5 (fill_zero (ds.drop 32) 32).symm),(Qa7.refl [g6,g8] W5),x5⟩ fun s1 X1 V1 hI1=>?_
 obtain ⟨i,hs1⟩:∃ z,z=s1:=⟨_,rfl⟩
 subst hs1
 obtain ⟨hi,q6_1,q8_1,kk1,xx1⟩:=hI1
 replace hi:i≤32:=hi
 replace q6_1:V1.heap[g6]? = some (.cells (ints .u8 (fill (ds.take 32) 32 i)) 23):=q6_1
 replace q8_1:V1.heap[g8]? = some (.cells (ints .u8 (fill (ds.drop 32) 32 i)) 23):=q8_1
 replace kk1:Qa7 [g6,g8] W5 V1:=kk1
 replace xx1:Ext w V1:=xx1
 have q6:=kk1
 refine wp_seq_k fun K11 hK11=>?_
 refine wp_seq_k fun K12 hK12=>?_
 refine Qac ?_
 refine Qab (.int .i64 ((i:Nat):Int)) 7 rfl kj kj ?_
 refine Qab (.bool (decide (((i:Nat):Int)<32))) 8 rfl kj kj ?_
 refine Qaf ?_
 refine hK12 _ _ ?_
 refine Qa5 (t:=decide (((i:Nat):Int)<32)) kj (fun c13=>?_) (fun c13=>?_)
 ·skip
  have hlt8:i<32:=by have:=of_decide_eq_true c13; omega
  refine wp_skip ?_
  refine hK11 _ _ ?_
  refine wp_seq_k fun K14 hK14=>?_
  refine wp_block ?_
  refine wp_seq_k fun K15 hK15=>?_
  refine Qac ?_
  refine Qab (.int .i64 ((i:Nat):Int)) 11 rfl kj kj ?_
  refine Qab (.int .i64 ((i:Nat):Int)) 12 rfl kj kj ?_
  refine Qab (.pointer (some ⟨g2,i,none⟩)) 13 rfl kj (QaD _ _ _ .i64 (i) _ 64 5 rfl kj kj kj kj (by omega)) ?_
  have r2_2:=(Qaa r2_1 e2)
  have r2_3:=(Qaa r2_2 e3)
  have r2_4:=(Qaa r2_3 e4)
  have r2_5:=(Qaa r2_4 e5)
  have r2_6:=(Qa7.row q6 r2_5 (Qbj (Qad r2_3 l6) (Qbj (Qad r2_4 l8) QbI)))
  refine Qab (.int .u8 (nth (ds.take 32) i)) 14 rfl kj (Qam 5 _ g2 i 30 _ (.int .u8 (nth (ds.take 32) i)) _ r2_6 rfl kj ((Qas _ _ _ (Nat.lt_of_lt_of_eq (by omega) hd.symm)).trans (congrArg (fun z=>some (Value.int .u8 z)) (Qqt hlt8))) kj) ?_
  refine Qab (.pointer (some ⟨g6,i,none⟩)) 15 rfl kj (QaD _ _ _ .i64 (i) _ 32 5 rfl kj kj kj kj (by omega)) ?_
  refine Qak g6 _ (ints .u8 ((fill (ds.take 32) 32 i).set i (nth (ds.take 32) i))) 23 q6_1 rfl kj (Qa1 5 _ _ g6 i 23 _ _ q6_1 rfl kj kj kj (Nat.lt_of_lt_of_eq (by omega) (fill_len (Qbt hd) hi).symm)) fun W7 p7 r6_7=>?_
  have x7:Ext w W7:=Puts.ext p7 xx1 b6
  refine Qaf ?_
  refine hK15 _ _ ?_
  refine Qac ?_
  refine Qab (.int .i64 ((i:Nat):Int)) 16 rfl kj kj ?_
  refine Qab (.int .i64 ((i:Nat):Int)) 17 rfl kj kj ?_
  refine Qab (.int .i64 ((32+i:Nat):Int)) 18 rfl kj (Qan (u:=.int .i64 (IntKind.i64.wrap (32+((i:Nat):Int)))) kj (congrArg (Value.int .i64) (i64n _ _ (by omega) (by omega)))) ?_
  refine Qab (.pointer (some ⟨g2,32+i,none⟩)) 19 rfl kj (QaD _ _ _ .i64 (32+i) _ 64 5 rfl kj kj kj kj (by omega)) ?_
  have r2_7:=(Puts.row p7 r2_6 (Qad r2_3 l6))
  refine Qab (.int .u8 (nth (ds.drop 32) i)) 20 rfl kj (Qam 5 _ g2 (32+i) 30 _ (.int .u8 (nth (ds.drop 32) i)) _ r2_7 rfl kj ((Qas _ _ _ (Nat.lt_of_lt_of_eq (by omega) hd.symm)).trans (congrArg (fun z=>some (Value.int .u8 z)) (Qqu ds i))) kj) ?_
  refine Qab (.pointer (some ⟨g8,i,none⟩)) 21 rfl kj (QaD _ _ _ .i64 (i) _ 32 5 rfl kj kj kj kj (by omega)) ?_
  have r8_7:=(Puts.row p7 q8_1 nx54)
  refine Qak g8 _ (ints .u8 ((fill (ds.drop 32) 32 i).set i (nth (ds.drop 32) i))) 23 r8_7 rfl kj (Qa1 5 _ _ g8 i 23 _ _ r8_7 rfl kj kj kj (Nat.lt_of_lt_of_eq (by omega) (fill_len (Qby hd) hi).symm)) fun W8 p8 r8_8=>?_
  have x8:Ext w W8:=Puts.ext p8 x7 b8
  refine Qaf ?_
  refine hK14 _ _ ?_
  refine Qac ?_
  refine Qab (.int .i64 ((i:Nat):Int)) 9 rfl kj kj ?_
  refine Qab (.int .i64 ((i+1:Nat):Int)) 10 rfl kj (Qan (u:=.int .i64 (IntKind.i64.wrap (((i:Nat):Int)+1))) kj (congrArg (Value.int .i64) (i64n _ _ (by omega) (by omega)))) ?_
  refine Qab (.int .i64 ((i+1:Nat):Int)) 6 rfl kj kj ?_
  refine Qaf ?_
  have r6_8:=(Puts.row p8 r6_7 (Ne.symm nx54))
  repeat (first | with_reducible refine goX1 ?_ | with_reducible refine goX2 ?_ | with_reducible refine goX3 ?_)
  exact QaA (i+1) ⟨rfl,rfl,rfl,rfl,rfl,rfl,trivial⟩ ⟨(by omega),(QaB r6_8 (fill_set (Qbt hd) hlt8)),(QaB r8_8 (fill_set (Qby hd) hlt8)),(Qa7.puts (Qa7.puts q6 p7 (.inl (by simp))) p8 (.inl (by simp))),x8⟩ (by show 32-(i+1)<32-i; omega)
 ·skip
  have heq8:i=32:=by have:=of_decide_eq_false c13; omega
  have r6_6_16:V1.heap[g6]? = some (.cells (ints .u8 (ds.take 32)) 23):=QaB q6_1 (by rw [heq8]; exact fill_full (Qbt hd))
  have r8_6_17:V1.heap[g8]? = some (.cells (ints .u8 (ds.drop 32)) 23):=QaB q8_1 (by rw [heq8]; exact fill_full (Qby hd))
  refine wp_exit ?_
  refine hK9 _ _ ?_
  refine wp_seq_k fun K18 hK18=>?_
  refine QaP (fun W=>W.heap[g8]? = some (.cells (ints .u8 (ds.drop 32)) 23)) [⟨none,[(4,none)]⟩,⟨none,[(5,none)]⟩,⟨none,[(2,none),(22,some 0)]⟩,⟨none,[(3,none),(23,some 1)]⟩] [] [1] kj kj kj (fun W hR=>Qaa r8_6_17 hR) fun F hF=>?_
  refine QaW (.agg (ints .u8 (ds.take 32))) kj kj kj rfl (fun W hR=>(Qag 23 _ g6 23 _ _ (Qaa (Qaa r6_6_16 (Qai _)) hR) rfl kj kj (isz (n:=32) kj ((Qae _ _).trans (Qbt hd))))) ?_
  refine Qoc (.agg (ints .u8 (ds.drop 32))) kj kj kj rfl (fun W hW=>(Qag 23 _ g8 23 _ _ hW rfl kj kj (isz (n:=32) kj ((Qae _ _).trans (Qby hd))))) ?_
  refine Qb1 rfl ?_
  refine Qb1 rfl ?_
  refine QcX (hF _ kj fun W7 e7=>?_)
  simp only [List.nil_append,List.cons_append,fins,up]
  clear hF
  have x7:Ext w W7:=Ext.tr xx1 e7
  have r3_3:=(Qaa r3_2 e3)
  have r3_4:=(Qaa r3_3 e4)
  have r3_5:=(Qaa r3_4 e5)
  have r3_6:=(Qa7.row q6 r3_5 (Qbj (Qad r3_3 l6) (Qbj (Qad r3_4 l8) QbI)))
  have r3_7:=(Qaa r3_6 e7)
  have r8_7:=(Qaa r8_6_17 e7)
  refine Qbh _ g3 _ (ints .u8 (ds.take 32)) 23 r3_7 rfl (Qah 23 _ _ g3 23 _ _ r3_7 rfl kj kj (isz (n:=32) kj ((Qae _ _).trans (Qbt hd))) (eqsz (n:=32) ((Qae _ _).trans (qZ (n:=32))) ((Qae _ _).trans (Qbt hd))) (ints_one _ _)) (fun W hp=>Puts.row hp r8_7 (Qat r3_4 l8)) fun W8 p8 r3_8=>?_
  have x8:Ext w W8:=Puts.ext p8 x7 b3
  have r4_4:=(Qaa r4_3 e4)
  have r4_5:=(Qaa r4_4 e5)
  have r4_6:=(Qa7.row q6 r4_5 (Qbj (Qad r4_3 l6) (Qbj (Qad r4_4 l8) QbI)))
  have r4_7:=(Qaa r4_6 e7)
  have r4_8:=(Puts.row p8 r4_7 (Qat r3_2 l4))
  have r8_8:=(Puts.row p8 r8_7 (Qat r3_4 l8))
  refine Qbh _ g4 _ (ints .u8 (ds.drop 32)) 23 r4_8 rfl (Qah 23 _ _ g4 23 _ _ r4_8 rfl kj kj (isz (n:=32) kj ((Qae _ _).trans (Qby hd))) (eqsz (n:=32) ((Qae _ _).trans (qZ (n:=32))) ((Qae _ _).trans (Qby hd))) (ints_one _ _)) (fun W hp=>Puts.row hp r8_8 (Qat r4_4 l8)) fun W9 p9 r4_9=>?_
  have x9:Ext w W9:=Puts.ext p9 x8 b4
  refine Qci ?_
  refine hK18 _ _ ?_
  refine wp_ret ?_
  repeat (first | with_reducible refine goR1 ?_ | with_reducible refine goR2 ?_)
  have r3_9:=(Puts.row p9 r3_8 (Qad r3_2 l4))
  exact (show bodyPost _ _ _ .ret _ _ from ret2 (.agg (ints .u8 (ds.take 32))) (.agg (ints .u8 (ds.drop 32))) rfl (QaC g3 23 _ r3_9 kj kj (isz (n:=32) kj ((Qae _ _).trans (Qbt hd)))) (QaC g4 23 _ r4_9 kj kj (isz (n:=32) kj ((Qae _ _).trans (Qby hd)))) ⟨rfl,x9⟩)
end Go.Proofs.YtdoadngmgmdlbaaDoor.Sha5
end
section
namespace Go.Proofs.YtdoadngmgmdlbaaDoor.Ladder
open Go Go.RowKit
open Rely
def clamp (xs : List Int):List Int:=(xs.set 0 (nth xs 0/8*8)).set 31 (nth xs 31%64+64)
theorem QqJ : ∀ a:Fin 256,bits .and .u8 (a.val:Int) 248=(a.val:Int)/8*8:=by decide +kernel
theorem Qrf : ∀ a:Fin 256,bits .or .u8 (bits .and .u8 (a.val:Int) 127) 64=(a.val:Int)%64+64:=by decide +kernel
theorem Qp6 (a : Int) (h:0≤a∧a≤255):bits .and .u8 a 248=a/8*8:=by
  have:=QqJ ⟨a.toNat,by omega⟩
  simpa [Int.toNat_of_nonneg h.1] using this
theorem Qqo (a : Int) (h:0≤a∧a≤255):bits .or .u8 (bits .and .u8 a 127) 64=a%64+64:=by
  have:=Qrf ⟨a.toNat,by omega⟩
  simpa [Int.toNat_of_nonneg h.1] using this
theorem infoKey : (Tryd.prog.info? 23).map (·.size)=some 32:=kj
theorem Qgv (w : World) (a b:Obj):((w.alloc a).alloc b).heap[w.heap.size]? = some a:=by
  rw [Below.heap_alloc _ _ _ (by simp)]
  exact heap_alloc_new w a
theorem QdT (w : World) (a b:Obj):((w.alloc a).alloc b).heap[w.heap.size+1]? = some b:=by
  have:=heap_alloc_new (w.alloc a) b
  simpa using this
theorem ints_one (k : IntKind) (xs:List Int):(ints k xs).all (·.oneCell')=true:=by simp [ints,Value.oneCell']
theorem below_setRow {B : Nat} {a w:World} (h:Below B a w) {g:Nat} (hp:B≤g) (cs:Array Value):Below B a (w.setRow g cs) :=
  ⟨h.os,h.tape,h.output,by simpa using h.size,fun k hk=>(setRow_other w g k cs (by omega)).trans (h.block k hk)⟩
theorem nth_set_ne (l : List Int) (i j:Nat) (v:Int) (h:i≠j):nth (l.set i v) j=nth l j:=by simp [nth,h]
theorem clampC (xs : List Int) (hl:xs.length=32) (hb:Qal xs) (w:World) :
    Calls Tryd.prog 42 #[.agg (ints .u8 xs)] w (Ret w (.agg (ints .u8 (clamp xs)))):=by
  have a0:=Qp6 _ (hb.nth 0)
  have a31:=Qqo _ (hb.nth 31)
  have e0:(ints .u8 xs)[0]? = some (.int .u8 (nth xs 0)):=Qas _ _ _ (by omega)
  have hi:∀ (ys:List Int),ys.length=32→(Tryd.prog.info? 23).map (·.size)=some (ints .u8 ys).size:=fun ys h=>by rw [infoKey,Qae,h]
  have hset:∀ (ys:List Int) (i:Nat) (v:Int),(ints .u8 ys).setIfInBounds i (.int .u8 v)=ints .u8 (ys.set i v):=fun ys i v=>Qbz _ _ _ _
  have e31:(ints .u8 (xs.set 0 (nth xs 0/8*8)))[31]? = some (.int .u8 (nth xs 31)):=by rw [Qas _ _ _ (by simp; omega),nth_set_ne _ _ _ _ (by decide)]
  have HE0:=Lib.hid e0
  go_enter Tryd.func42,Tryd.ntmps42
  go_wp2_with first
    | (with_reducible show wpList _ _ _ ((⟨_,.load 23 _,_,_,_,_⟩:Oper)::_) _ _
       refine wpList_load_row rfl 23 _ rfl w.heap.size rfl 23 (ints .u8 (clamp xs)) (0,0) _ (Qgv _ _ _) Tryd.underlying23 rfl (hi _ (by simp [clamp,hl])) ?_)
    | (with_reducible show wpList _ _ _ ((⟨_,.store 23 _ _,_,_,_,_⟩:Oper)::_) _ _
       refine wpList_store_row rfl 23 _ _ rfl (w.heap.size+1) (ints .u8 (clamp xs)) rfl rfl 23 _ (QdT _ _ _) (hi _ (by simp [clamp,hl])) (by simp [ints,clamp,hl]) (ints_one _ _) ?_)
  refine bodyPost_ret (v:=.agg (ints .u8 (clamp xs))) (results_cell_row (p:=2) rfl _ _ (w.heap.size+1) 23 (ints .u8 (clamp xs)) (0,0) _ rfl (setRow_heap _ _ _ _ _ _ (QdT _ _ _)) Tryd.underlying23 rfl (hi _ (by simp [clamp,hl]))) rfl ⟨rfl,?_⟩
  exact below_setRow (((Below.refl _ _).alloc (qR _) _).alloc (by simp) _) (by omega) _
theorem wrap_u8 (a : Int) (h:0≤a) (h2:a<256):IntKind.u8.wrap a=a:=by
  have e:IntKind.u8.bits=8:=rfl
  have f:IntKind.u8.signed=false:=rfl
  simp [IntKind.wrap,e,f]
  omega
theorem refClampC (xs : List Int) (hl:xs.length=32) (hb:Qal xs) (w:World) :
    Calls Tryd.prog 28 #[.agg (ints .u8 xs)] w (Ret w (.agg (ints .u8 (clamp xs)))):=by
  have c0:=hb.nth 0
  have c31:=hb.nth 31
  have a0:IntKind.u8.wrap (nth xs 0/8*8)=nth xs 0/8*8:=wrap_u8 _ (by omega) (by omega)
  have a31:IntKind.u8.wrap (nth xs 31%64+64)=nth xs 31%64+64:=wrap_u8 _ (by omega) (by omega)
  have e0:(ints .u8 xs)[0]? = some (.int .u8 (nth xs 0)):=Qas _ _ _ (by omega)
  have hi:∀ (ys:List Int),ys.length=32→(Tryd.prog.info? 23).map (·.size)=some (ints .u8 ys).size:=fun ys h=>by rw [infoKey,Qae,h]
  have hset:∀ (ys:List Int) (i:Nat) (v:Int),(ints .u8 ys).setIfInBounds i (.int .u8 v)=ints .u8 (ys.set i v):=fun ys i v=>Qbz _ _ _ _
  have e31:(ints .u8 (xs.set 0 (nth xs 0/8*8)))[31]? = some (.int .u8 (nth xs 31)):=by rw [Qas _ _ _ (by simp; omega),nth_set_ne _ _ _ _ (by decide)]
  have HE0:=Lib.hid e0
  go_enter Tryd.func28,Tryd.ntmps28
  go_wp2_with first
    | (with_reducible show wpList _ _ _ ((⟨_,.load 23 _,_,_,_,_⟩:Oper)::_) _ _
       refine wpList_load_row rfl 23 _ rfl w.heap.size rfl 23 (ints .u8 (clamp xs)) (0,0) _ (Qgv _ _ _) Tryd.underlying23 rfl (hi _ (by simp [clamp,hl])) ?_)
    | (with_reducible show wpList _ _ _ ((⟨_,.store 23 _ _,_,_,_,_⟩:Oper)::_) _ _
       refine wpList_store_row rfl 23 _ _ rfl (w.heap.size+1) (ints .u8 (clamp xs)) rfl rfl 23 _ (QdT _ _ _) (hi _ (by simp [clamp,hl])) (by simp [ints,clamp,hl]) (ints_one _ _) ?_)
  refine bodyPost_ret (v:=.agg (ints .u8 (clamp xs))) (results_cell_row (p:=2) rfl _ _ (w.heap.size+1) 23 (ints .u8 (clamp xs)) (0,0) _ rfl (setRow_heap _ _ _ _ _ _ (QdT _ _ _)) Tryd.underlying23 rfl (hi _ (by simp [clamp,hl]))) rfl ⟨rfl,?_⟩
  exact below_setRow (((Below.refl _ _).alloc (qR _) _).alloc (by simp) _) (by omega) _
end Go.Proofs.YtdoadngmgmdlbaaDoor.Ladder
end
section
namespace Go.Proofs.YtdoadngmgmdlbaaDoor.Sha5
open Go Go.RowKit
open Rely Auto Own
section
variable {ds : List Deferred} {P : Program} {ops : Array Oper} {Q : Exit → Act → World → Prop} {rest : List Oper} {o : Oper} {N : Nat} {L : Env} {W : World}
theorem Qcn {k : IntKind} {e:TypeId} (x y:Operand) (tx ty:TypeId) (d:Nat) (ho:o.op=.call { callee:=.builtin .copy,args:=#[x,y],argTypes:=#[tx,ty] }) (hu:P.underlying tx=some (.slice e)) (hsz:(P.info? e).map (·.size)=some 1) (hd:o.dst=some d) (hgd:QcL ops o N L=some true)
    {g off dl dc n B:Nat} {xs z:List Int} {v:Value} {T:TypeId} (hx:Rely.look (envN N L) x=.slice (some ⟨g,off,none⟩) dl dc) (hy:Rely.look (envN N L) y=v) (hr:RdK k B z v W)
    (hg:W.heap[g]? = some (.cells (ints k xs) T)) (hq:off+dl≤xs.length) (hn:n=min z.length dl)
    (kk:∀ W':World,Puts W g W'→W'.heap[g]? = some (.cells (ints k (xs.take off++z.take n++xs.drop (off+n))) T)→WL P ops Q rest (Qa4 ds N ((d,.int .i64 ((n:Nat):Int))::L)) W'):WL P ops Q (o::rest) (Qa4 ds N L) W:=by
  obtain ⟨a,cap,rfl,y2,y3,y4,y5⟩:=hr
  have hgo:∀ W',(Builtin.copy_ #[tx,ty] o.type #[.slice (some ⟨g,off,none⟩) dl dc,.slice a z.length cap]).run P W=.ok (goInt n) W'→(execOp (Rely.look (envN N L)) o).run P W=.ok (.value (.int .i64 ((n:Nat):Int))) W':=fun W' h=>by
    unfold execOp
    simp only [ho,resolve,invoke,builtin,Sem.run_bind,Sem.run_pure,Result.andThen_ok,List.map_toArray,List.map_cons,List.map_nil,hx,hy,h,goInt]
  rcases Nat.eq_zero_or_pos n with h0 | h0
  · refine QcD _ _ d hd hgd (hgo W ?_) (kk W ⟨rfl,rfl,rfl,rfl,fun _ _=>rfl⟩ ?_)
    · rw [h0]; exact run_copy_none W tx ty o.type e _ _ _ _ _ _ hu hsz (hn.symm.trans h0)
    · rw [h0,List.take_zero,List.append_nil,Nat.add_zero,List.take_append_drop]; exact hg
  · obtain ⟨gz,oz,rfl,z2,z3,z4⟩:=y5.resolve_left (fun e=>by rw [e] at hn; simp at hn; omega)
    have hlen:((z.take n).map (Value.int k)).length=n:=by simp; omega
    have h:=run_copy_row (P:=P) W tx ty o.type e g off dl dc ⟨gz,oz,none⟩ z.length cap (ints k xs) T ((z.take n).map (Value.int k)) hu hsz hg (by rw [hlen]; exact hn)
      (Qm9 (k:=k) (ys:=z.take n) fun i hi=>by
        rw [List.length_take] at hi
        rw [z4 i (by omega)]
        simp [nth,show i<n by omega]) (by rw [hlen,Qae]; omega) (Qm2 k _)
    rw [hlen] at h
    have e1:((ints k xs).toList.take off++(z.take n).map (Value.int k)++(ints k xs).toList.drop (off+n)).toArray=ints k (xs.take off++z.take n++xs.drop (off+n)):=by
      apply Array.ext'
      show (xs.map (Value.int k)).take off++(z.take n).map (Value.int k)++(xs.map (Value.int k)).drop (off+n)=(xs.take off++z.take n++xs.drop (off+n)).map (Value.int k)
      simp only [List.map_append,List.map_take,List.map_drop]
    rw [e1] at h
    exact QcD _ _ d hd hgd (hgo _ h) (kk _ (QcA _ _ _) (setRow_heap _ _ _ _ _ _ hg))
end
theorem Qdf {z : List Int} (h:z.length=32):(List.replicate 32 (0:Int)).take 0++z.take 32++(List.replicate 32 (0:Int)).drop (0+32)=z:=by
  rw [List.take_zero,List.nil_append,List.take_of_length_le (by omega),List.drop_of_length_le (by simp),List.append_nil]
end Go.Proofs.YtdoadngmgmdlbaaDoor.Sha5
end
section
namespace Go.Proofs.YtdoadngmgmdlbaaDoor.Sha5
open Go Go.RowKit
open Rely Auto Own
open Ladder (clamp)
theorem Qkh (x : Wd):Qal (wby x):=fun y hy=>by
  unfold wby at hy
  obtain ⟨k,_,rfl⟩:=List.mem_map.1 hy
  omega
theorem dig_bytes (t : List Int):Qal (dig t):=fun y hy=>by
  unfold dig S8.out at hy
  obtain ⟨x,_,h⟩:=List.mem_flatMap.1 hy
  exact Qkh x y h
theorem Qfj {xs : List Int} (h:Qal xs):Qal (xs.take 32):=fun x hx=>h x (List.mem_of_mem_take hx)
theorem QeF {xs : List Int} (hx:xs.length=32):(clamp xs).length=32:=by simp [clamp,hx]
theorem QoL (xs : List Int) (a b:Nat):nth (xs.drop a) b=nth xs (a+b):=by
  unfold nth
  rw [List.getD_eq_getElem?_getD,List.getD_eq_getElem?_getD,List.getElem?_drop]
theorem QoK (xs : List Int) (a b:Nat) (h:b<a):nth (xs.take a) b=nth xs b:=by
  unfold nth
  rw [List.getD_eq_getElem?_getD,List.getD_eq_getElem?_getD,List.getElem?_take,if_pos h]
theorem Qd9 {k : IntKind} {T:TypeId} {g n l h:Nat} {xs:List Int} {W:World} (hn:xs.length=n) (r:W.heap[g]? = some (.cells (ints k xs) T)) (h1:l≤h) (h2:h≤n) (h3:n≤maxLen):RdK k W.heap.size ((xs.drop l).take (h-l)) (.slice (some ⟨g,l,none⟩) (h-l) (n-l)) W :=
  Qeb l (by rw [List.length_take,List.length_drop]; omega) r (fun i hi=>by rw [QoK _ _ _ hi,QoL]; exact Qas k xs (l+i) (by omega)) (Qa3 r) (by omega) (by omega)
theorem QpO (xs : List Int) (hx:xs.length=32) (hb:Qal xs) (tc tq:TypeId) (w:World) (hc:w.heap[5]? = some (.cells (ints .u64 Qc6) tc)) (hq:w.heap[4]? = some (.cells (ints .u64 Qbc) tq)):Calls Tryd.prog 19 #[.agg (ints .u8 xs)] w (Ret w (.tuple #[.agg (ints .u8 (clamp ((dig xs).take 32))),.agg (ints .u8 ((dig xs).drop 32))])):=by
  refine enter 17 [(0,.agg (ints .u8 (xs)))] Tryd.func19 rfl rfl kj rfl ?_
  refine wp_seq_k fun K3 hK3=>?_
  refine Qac ?_
  refine Qaj (ints .u8 (xs)) 23 1 rfl kj kj fun g4 W1 l4 e1 r4_1=>?_
  have x1:Ext w W1:=Ext.tr (Rely.Ext.refl w) e1
  have b4:w.heap.size≤g4:=qT (Rely.Ext.refl w).size l4
  refine Qaj (ints .u8 (List.replicate 32 0)) 23 2 rfl kj kj fun g5 W2 l5 e2 r5_2=>?_
  have x2:Ext w W2:=Ext.tr x1 e2
  have b5:w.heap.size≤g5:=qT x1.size l5
  refine Qaj (ints .u8 (List.replicate 32 0)) 23 3 rfl kj kj fun g6 W3 l6 e3 r6_3=>?_
  have x3:Ext w W3:=Ext.tr x2 e3
  have b6:w.heap.size≤g6:=qT x2.size l6
  refine Qaf ?_
  refine hK3 _ _ ?_
  refine wp_seq_k fun K7 hK7=>?_
  refine Qac ?_
  refine Qab (.slice (some ⟨g4,0,none⟩) 32 32) 5 rfl kj kj ?_
  refine QaR (#[.slice (some ⟨g4,0,none⟩) 32 32]) 27 1 6 rfl kj kj fun g8 W4 l8 e4 r8_4=>?_
  have x4:Ext w W4:=Ext.tr x3 e4
  have b8:w.heap.size≤g8:=qT x3.size l8
  have r4_2:=(Qaa r4_1 e2)
  have r4_3:=(Qaa r4_2 e3)
  have r4_4:=(Qaa r4_3 e4)
  have r1_1:=(Qaa hc e1)
  have r1_2:=(Qaa r1_1 e2)
  have r1_3:=(Qaa r1_2 e3)
  have r1_4:=(Qaa r1_3 e4)
  have r2_1:=(Qaa hq e1)
  have r2_2:=(Qaa r2_1 e2)
  have r2_3:=(Qaa r2_2 e3)
  have r2_4:=(Qaa r2_3 e4)
  have hps9:∀ p∈([(.slice (some ⟨g4,0,none⟩) 32 32,xs)]:List (Value×List Int)),RdK .u8 W4.heap.size p.2 p.1 W4∧Qal p.2:=by
    intro p hp
    simp only [List.mem_cons,List.not_mem_nil,or_false] at hp
    rcases hp with rfl
    · exact ⟨RdK.here (Qcc (xs:=xs) (n:=32) hx r4_4 (Qa3 r4_4) (show 32≤maxLen from by decide)),hb⟩
  have hsh9:=Qri g8 1 _ ([(.slice (some ⟨g4,0,none⟩) 32 32,xs)]:List (Value×List Int)) rfl (by decide) tc tq W4 r1_4 r2_4 r8_4 hps9 (by simp only [List.map_cons,List.map_nil,List.flatten_cons,List.flatten_nil,List.append_nil,List.length_append]; omega)
  rw [show ((List.map Prod.snd ([(.slice (some ⟨g4,0,none⟩) 32 32,xs)]:List (Value×List Int))).flatten)=xs by simp only [List.map_cons,List.map_nil,List.flatten_cons,List.flatten_nil,List.append_nil]] at hsh9
  refine Qar (.agg (ints .u8 (dig (xs)))) 41 #[.slice (some ⟨g8,0,none⟩) 1 1] 7 rfl kj kj hsh9 fun W5 e5=>?_
  have x5:Ext w W5:=Ext.tr x4 e5
  refine Qaj (ints .u8 (List.replicate 64 0)) 30 4 rfl kj kj fun g10 W6 l10 e6 r10_6=>?_
  have x6:Ext w W6:=Ext.tr x5 e6
  have b10:w.heap.size≤g10:=qT x5.size l10
  refine Qak g10 _ (ints .u8 (dig (xs))) 30 r10_6 rfl kj (Qah 30 _ _ g10 30 _ _ r10_6 rfl kj kj (isz (n:=64) kj ((Qae _ _).trans (dig_len _))) (eqsz (n:=64) ((Qae _ _).trans (qZ (n:=64))) ((Qae _ _).trans (dig_len _))) (ints_one _ _)) fun W7 p7 r10_7=>?_
  have x7:Ext w W7:=Puts.ext p7 x6 b10
  refine Qaf ?_
  refine hK7 _ _ ?_
  refine wp_seq_k fun K11 hK11=>?_
  refine Qbb 2 [⟨none,[(2,none)]⟩,⟨none,[(4,none)]⟩] kj kj fun F hF=>?_
  refine QaL (Qaz _) (.slice (some ⟨g5,0,none⟩) 32 32) kj kj (fun W=>kj) ?_
  refine QaL (Qaz _) (.slice (some ⟨g10,0+0,none⟩) (32-0) (64-0)) kj kj (fun W=>(Qb4 30 _ _ _ 0 32 64 g10 0 5 rfl kj kj kj rfl ⟨.i64,kj⟩ (by omega) (by omega) (by omega))) ?_
  refine QdE (hF _ fun W8 e8=>?_)
  simp only [List.nil_append,List.cons_append,List.take_succ_cons,List.take_zero,List.drop_succ_cons,List.drop_zero,finE,up]
  clear hF
  have x8:Ext w W8:=Ext.tr x7 e8
  have r10_8:=(Qaa r10_7 e8)
  have hrd12:RdK .u8 W8.heap.size ((dig xs).take 32) (.slice (some ⟨g10,0+0,none⟩) (32-0) (64-0)) W8:=Qd9 (l:=0) (h:=32) (n:=64) (dig_len xs) r10_8 (by decide) (by decide) (by decide)
  have r5_3:=(Qaa r5_2 e3)
  have r5_4:=(Qaa r5_3 e4)
  have r5_5:=(Qaa r5_4 e5)
  have r5_6:=(Qaa r5_5 e6)
  have r5_7:=(Puts.row p7 r5_6 (Qad r5_5 l10))
  have r5_8:=(Qaa r5_7 e8)
  refine Qcn (k:=.u8) (e:=5) (z:=(dig xs).take 32) (.tmp 8) (.tmp 9) 27 27 10 rfl kj kj rfl kj (off:=0) (dl:=32) (dc:=32) (n:=32) (xs:=List.replicate 32 0) kj kj hrd12 r5_8 (qT (show 0+(32)≤32 from (by omega)) (qE (qZ (n:=32)).symm)) (by rw [(Qbt (dig_len xs))]; rfl) fun W9 p9 r5_9=>?_
  have x9:Ext w W9:=Puts.ext p9 x8 b5
  have r5_9_13:W9.heap[g5]? = some (.cells (ints .u8 ((dig xs).take 32)) 23):=QaB r5_9 (Qdf (Qbt (dig_len xs)))
  refine Qaf ?_
  refine hK11 _ _ ?_
  refine wp_seq_k fun K14 hK14=>?_
  refine Qbb 2 [⟨none,[(3,none)]⟩,⟨none,[(4,none)]⟩] kj kj fun F hF=>?_
  refine QaL (Qaz _) (.slice (some ⟨g6,0,none⟩) 32 32) kj kj (fun W=>kj) ?_
  refine QaL (Qaz _) (.slice (some ⟨g10,0+32,none⟩) (64-32) (64-32)) kj kj (fun W=>(Qb4 30 _ _ _ 32 64 64 g10 0 5 rfl kj kj kj ⟨.i64,kj⟩ rfl (by omega) (by omega) (by omega))) ?_
  refine QdE (hF _ fun W10 e10=>?_)
  simp only [List.nil_append,List.cons_append,List.take_succ_cons,List.take_zero,List.drop_succ_cons,List.drop_zero,finE,up]
  clear hF
  have x10:Ext w W10:=Ext.tr x9 e10
  have r10_9:=(Puts.row p9 r10_8 (Qat r5_5 l10))
  have r10_10:=(Qaa r10_9 e10)
  have hrd15:RdK .u8 W10.heap.size ((dig xs).drop 32) (.slice (some ⟨g10,0+32,none⟩) (64-32) (64-32)) W10:=by
    have h:=Qd9 (l:=32) (h:=64) (n:=64) (dig_len xs) r10_10 (by decide) (by decide) (by decide)
    rwa [List.take_of_length_le (by rw [List.length_drop,dig_len]; decide)] at h
  have r6_4:=(Qaa r6_3 e4)
  have r6_5:=(Qaa r6_4 e5)
  have r6_6:=(Qaa r6_5 e6)
  have r6_7:=(Puts.row p7 r6_6 (Qad r6_5 l10))
  have r6_8:=(Qaa r6_7 e8)
  have r6_9:=(Puts.row p9 r6_8 (Qat r5_2 l6))
  have r6_10:=(Qaa r6_9 e10)
  refine Qcn (k:=.u8) (e:=5) (z:=(dig xs).drop 32) (.tmp 11) (.tmp 12) 27 27 13 rfl kj kj rfl kj (off:=0) (dl:=32) (dc:=32) (n:=32) (xs:=List.replicate 32 0) kj kj hrd15 r6_10 (qT (show 0+(32)≤32 from (by omega)) (qE (qZ (n:=32)).symm)) (by rw [(Qby (dig_len xs))]; rfl) fun W11 p11 r6_11=>?_
  have x11:Ext w W11:=Puts.ext p11 x10 b6
  have r6_11_16:W11.heap[g6]? = some (.cells (ints .u8 ((dig xs).drop 32)) 23):=QaB r6_11 (Qdf (Qby (dig_len xs)))
  refine Qaf ?_
  refine hK14 _ _ ?_
  refine wp_seq_k fun K17 hK17=>?_
  refine QaK 3 [⟨none,[(2,none)]⟩,⟨none,[(14,some 0)]⟩,⟨none,[(3,none)]⟩] kj kj fun F hF=>?_
  have r5_10:=(Qaa r5_9_13 e10)
  have r5_11:=(Puts.row p11 r5_10 (Qad r5_2 l6))
  refine Qaq (.agg (ints .u8 ((dig xs).take 32))) kj kj (fun W hR=>(Qag 23 _ g5 23 _ _ (Qaa (Qaa r5_11 (Qai _)) hR) rfl kj kj (isz (n:=32) kj ((Qae _ _).trans (Qbt (dig_len xs)))))) ?_
  refine Qau (.agg (ints .u8 (clamp ((dig xs).take 32)))) 42 #[.agg (ints .u8 ((dig xs).take 32))] kj kj (fun W=>kj) (fun W hR=>(Ladder.clampC ((dig xs).take 32) (Qbt (dig_len xs)) (Qfj (dig_bytes xs))) W) ?_
  refine Qaq (.agg (ints .u8 ((dig xs).drop 32))) kj kj (fun W hR=>(Qag 23 _ g6 23 _ _ (Qaa (Qaa r6_11_16 (Qai _)) hR) rfl kj kj (isz (n:=32) kj ((Qae _ _).trans (Qby (dig_len xs)))))) ?_
  refine Qa9 (hF _ kj fun W12 e12=>?_)
  simp only [ups,up,Kn.val,List.take_succ_cons,List.take_zero,List.drop_succ_cons,List.drop_zero,List.nil_append,List.cons_append]
  clear hF
  have x12:Ext w W12:=Ext.tr x11 e12
  have r5_12:=(Qaa r5_11 e12)
  refine Qak g5 _ (ints .u8 (clamp ((dig xs).take 32))) 23 r5_12 rfl kj (Qah 23 _ _ g5 23 _ _ r5_12 rfl kj kj (isz (n:=32) kj ((Qae _ _).trans (QeF (Qbt (dig_len xs))))) (eqsz (n:=32) ((Qae _ _).trans (Qbt (dig_len xs))) ((Qae _ _).trans (QeF (Qbt (dig_len xs))))) (ints_one _ _)) fun W13 p13 r5_13=>?_
  have x13:Ext w W13:=Puts.ext p13 x12 b5
  have r6_12:=(Qaa r6_11_16 e12)
  have r6_13:=(Puts.row p13 r6_12 (Qat r5_2 l6))
  refine Qak g6 _ (ints .u8 ((dig xs).drop 32)) 23 r6_13 rfl kj (Qah 23 _ _ g6 23 _ _ r6_13 rfl kj kj (isz (n:=32) kj ((Qae _ _).trans (Qby (dig_len xs)))) (eqsz (n:=32) ((Qae _ _).trans (Qby (dig_len xs))) ((Qae _ _).trans (Qby (dig_len xs)))) (ints_one _ _)) fun W14 p14 r6_14=>?_
  have x14:Ext w W14:=Puts.ext p14 x13 b6
  refine Qaf ?_
  refine hK17 _ _ ?_
  refine wp_ret ?_
  repeat (first | with_reducible refine goR1 ?_ | with_reducible refine goR2 ?_)
  have r5_14:=(Puts.row p14 r5_13 (Qad r5_2 l6))
  exact (show bodyPost _ _ _ .ret _ _ from ret2 (.agg (ints .u8 (clamp ((dig xs).take 32)))) (.agg (ints .u8 ((dig xs).drop 32))) rfl (QaC g5 23 _ r5_14 kj kj (isz (n:=32) kj ((Qae _ _).trans (QeF (Qbt (dig_len xs)))))) (QaC g6 23 _ r6_14 kj kj (isz (n:=32) kj ((Qae _ _).trans (Qby (dig_len xs))))) ⟨rfl,x14⟩)
end Go.Proofs.YtdoadngmgmdlbaaDoor.Sha5
end
section
namespace Go.Proofs.YtdoadngmgmdlbaaDoor.Own
open Go Go.RowKit
open Rely Auto Sha
def OwnR (T : TypeId) (base:Nat) (vs:List Value) (v:Value) (W:World):Prop:=W.ownsRow base T 1 v vs.length vs∧vs.length≤maxLen
theorem QiV {T : TypeId} {base:Nat} {W:World}:OwnR T base [] (.slice none 0 0) W:=⟨⟨rfl,.inl ⟨rfl,rfl⟩⟩,Nat.zero_le _⟩
theorem OwnR.keep {T : TypeId} {base:Nat} {vs:List Value} {v:Value} {W W':World} (h:OwnR T base vs v W) (hk:∀ g,v.ownBlock=some g→W'.heap[g]? = W.heap[g]?):OwnR T base vs v W':=by
  obtain ⟨⟨h1,h2⟩,hm⟩:=h
  refine ⟨⟨h1,?_⟩,hm⟩
  rcases h2 with h2 | ⟨g,c,cur,rfl,q2,q3,q4,q5,q6,q7⟩
  · exact .inl h2
  · exact .inr ⟨g,c,cur,rfl,q2,(hk g rfl).trans q3,q4,q5,q6,q7⟩
theorem OwnR.at {T : TypeId} {base:Nat} {vs:List Value} {v:Value} {W:World} (h:OwnR T base vs v W) {g:Nat} (hg:v.ownBlock=some g):base≤g∧∃ cur,W.heap[g]? = some (.cells cur T):=by
  rcases h.1.2 with ⟨rfl,_⟩ | ⟨g',c,cur,rfl,q2,q3,_⟩
  · cases hg
  · obtain rfl:g'=g:=Option.some.inj hg
    exact ⟨q2,cur,q3⟩
theorem OwnR.ext {T : TypeId} {base:Nat} {vs:List Value} {v:Value} {W W':World} (h:OwnR T base vs v W) (e:Ext W W'):OwnR T base vs v W':=h.keep fun g hg=>by
  obtain ⟨_,c,hc⟩:=h.at hg
  exact e.block g (Qa3 hc)
theorem Qnz {W : World} {g:Nat} {c c':Array Value} {T T':TypeId} (h:W.heap[g]? = some (.cells c T)) (h':W.heap[g]? = some (.cells c' T')) (hne:T≠T'):False:=by
  rw [h] at h'
  simp only [Option.some.injEq,Obj.cells.injEq] at h'
  exact hne h'.2.1
theorem OwnR.puts {T T':TypeId} {base g:Nat} {vs:List Value} {v:Value} {W W':World} {c':Array Value} (h:OwnR T base vs v W) (p:Puts W g W') (r:W.heap[g]? = some (.cells c' T')) (hne:T≠T'):OwnR T base vs v W':=h.keep fun k hk=>by
  obtain ⟨_,c,hc⟩:=h.at hk
  exact p.2.2.2.2 k fun e=>by subst e; exact Qnz hc r hne
theorem Qcp {T : TypeId} {base g:Nat} {vs:List Value} {v:Value} {W:World} (h:OwnR T base vs v W) (hg:g<base):v.ownBlock≠some g:=fun e=>by
  have:=(h.at e).1
  omega
theorem QcJ {T T':TypeId} {base g:Nat} {vs:List Value} {v:Value} {W:World} {c:Array Value} (h:OwnR T base vs v W) (r:W.heap[g]? = some (.cells c T')) (hne:T≠T'):v.ownBlock≠some g:=fun e=>by
  obtain ⟨_,c2,hc⟩:=h.at e
  exact Qnz hc r hne
theorem Qbx {W W':World} {ob:Option Nat} {g:Nat} {o:Obj} (h:W.grownBy W' ob) (r:W.heap[g]? = some o) (hn:ob≠some g):W'.heap[g]? = some o:=(h.block g (Qa3 r) (fun e=>hn e.symm)).trans r
theorem QhJ {w W W':World} {ob:Option Nat} (e:Ext w W) (h:W.grownBy W' ob) (hge:∀ g,ob=some g→w.heap.size≤g):Ext w W' :=
  ⟨h.os.trans e.os,h.tape.trans e.tape,h.output.trans e.output,qT e.size h.size,fun i hi=>(h.block i (qL hi e.size) (fun q=>by have:=hge i q.symm; omega)).trans (e.block i hi)⟩
theorem OwnR.row {T : TypeId} {base n:Nat} {vs:List Value} {v:Value} {W:World} (h:OwnR T base vs v W) (hn:vs.length=n) (h0:0<n):∃ g c cur,v=.slice (some ⟨g,0,none⟩) n c∧base≤g∧W.heap[g]? = some (.cells cur T)∧∀ (i:Nat) (u:Value),vs[i]? = some u→cur[i]? = some u:=by
  subst hn
  rcases h.1.2 with ⟨_,h1⟩ | ⟨g,c,cur,h1,h2,h3,h4,h5,h6,h7⟩
  · omega
  · refine ⟨g,c,cur,h1,h2,h3,fun i u hi=>?_⟩
    have hl:i<vs.length:=(List.getElem?_eq_some_iff.1 hi).1
    rw [Nat.mul_one] at h7
    have e:(cur.toList.take vs.length)[i]? = vs[i]?:=by rw [h7]
    rw [List.getElem?_take_of_lt hl,hi] at e
    rw [←Array.getElem?_toList]
    exact e
section
variable {ds : List Deferred} {P : Program} {ops : Array Oper} {Q : Exit → Act → World → Prop} {rest : List Oper} {o : Oper} {N : Nat} {L : Env} {W : World}
theorem QcT {T : TypeId} (base b:Nat) (s x:Operand) (t:TypeId) (ho:o.op=.call { callee:=.builtin .append,args:=#[s,x],argTypes:=#[t,t] })
    (ht:P.underlying t=some (.slice T)) (z:Value) (hi:(P.info? T).map (fun i=>(i.zero,i.size,i.bytes))=some (some z,1,b)) (hz:z.cells.size=1) (hb:b≤100) (d:Nat) (hd:o.dst=some d) (hg:QcL ops o N L=some true) {v:Value} {vs ys:List Value} {gy m c:Nat} {Ty:TypeId} {cs:Array Value}
    (hs:Rely.look (envN N L) s=v) (hx:Rely.look (envN N L) x=.slice (some ⟨gy,0,none⟩) m c) (ry:W.heap[gy]? = some (.cells cs Ty)) (hm:ys.length=m) (hy:∀ (i:Nat) (u:Value),ys[i]? = some u→cs[i]? = some u) (h1:∀ u∈ys,u.oneCell'=true)
    (h:OwnR T base vs v W) (hn:vs.length≤100000) (hn2:m≤100000) (hV:base≤W.heap.size)
    (kk:∀ (u:Value) (W':World),OwnR T base (vs++ys) u W'→W.grownBy W' v.ownBlock→WL P ops Q rest (Qa4 ds N ((d,u)::L)) W'):WL P ops Q (o::rest) (Qa4 ds N L) W:=by
  have hii:∃ i,P.info? T=some i∧i.zero=some z∧i.size=1∧i.bytes=b:=by
    cases hq:P.info? T with
    | none=>rw [hq] at hi; cases hi
    | some i =>
      rw [hq] at hi
      simp only [Option.map_some,Option.some.injEq,Prod.mk.injEq] at hi
      exact ⟨i,rfl,hi.1,hi.2.1,hi.2.2⟩
  obtain ⟨i,hq,hi1,hi2,hi3⟩:=hii
  obtain ⟨v',W',hr,h2,h3,_,h5⟩:=run_append_own_at (P:=P) W base t o.type T i z 1 b ht hq hi1 hi2 hi3 hz (by omega) v vs.length vs h.1 ⟨gy,0,none⟩ m c ys (by omega)
    (fun j u hu=>by
      rw [WideShapes.add_plain]
      exact QaE ry (by rw [Nat.zero_add]; exact hy j u hu)) h1 (by simp only [maxLen]; omega) (by
        have:(vs.length+m)*b≤200000*100:=Nat.mul_le_mul (by omega) hb
        omega) hV
  refine QcD _ _ d hd hg (show (execOp (Rely.look (envN N L)) o).run P W=.ok (.value v') W' from ?_) (kk v' W' ⟨by rw [List.length_append,hm]; exact h2,by rw [List.length_append,hm]; simp only [maxLen]; omega⟩ h3)
  unfold execOp
  simp only [ho,resolve,invoke,builtin,Sem.run_bind,Sem.run_pure,Result.andThen_ok,List.map_toArray,List.map_cons,List.map_nil,hs,hx,hr]
end
end Go.Proofs.YtdoadngmgmdlbaaDoor.Own
end
section
namespace Go.Proofs.YtdoadngmgmdlbaaDoor.Auto
open Go Go.RowKit
open Rely
section
variable {P : Program} {Rd : World → Prop} {w0 : World} {base N : Nat} {L : Env} {U : List Nat} {F : List Kn → Prop} {o : Oper} {os : List Oper} {s : Src} {ss : List Src} {C : List Kn}
theorem Qax (v : Value) (hs:seen C o s=true) (hg:gOk s.guard (get (envS N L (C.map Kn.val) s.reads))=true) (hd:o.dst.isNone=false)
    (h:∀ W,(execOp (Rely.look (get (envS N L (C.map Kn.val) s.reads))) o).run P W=.ok (.value v) W)
    (hk:Qc3 P Rd w0 base N L U F os ss (C++[.is v])):Qc3 P Rd w0 base N L U F (o::os) (s::ss) C :=
  ⟨.is v,(fun hn=>by rw [hd] at hn; cases hn),(fun _=>by
    split
    · exact ⟨hs,v,rfl,fun W _=>QcB hg (h W)⟩
    · intro ρ W hR hh
      rw [Qdj hs hh]
      refine QcB hg ?_
      unfold QaU
      rw [Qd7 hs hh,h W]
      exact ⟨Ext.refl _,rfl⟩),hk⟩
theorem Qcw (v : Value) (f:FuncId) (args:Array Value) (hu:U.contains C.length=false) (hs:seen C o s=true) (hg:gOk s.guard (get (envS N L (C.map Kn.val) s.reads))=true) (hd:o.dst.isNone=false)
    (h:∀ W,(execOp (Rely.look (get (envS N L (C.map Kn.val) s.reads))) o).run P W=.ok (.enter f args) W) (hc:∀ W,Ext w0 W→Calls P f args W (Ret W v))
    (hk:Qc3 P Rd w0 base N L U F os ss (C++[.is v])):Qc3 P Rd w0 base N L U F (o::os) (s::ss) C :=
  t_op (.is v) hu hs hg hd (fun W hR=>by
    rw [h]
    exact ⟨Ext.refl _,(hc W hR).mono fun _ _ h=>h.const⟩) hk
theorem Qkm (cs : Array Value) (T:TypeId) (hu:U.contains C.length=false) (hs:seen C o s=true) (hb:base≤w0.heap.size) (hg:gOk s.guard (get (envS N L (C.map Kn.val) s.reads))=true) (hd:o.dst.isNone=false)
    (h:∀ W,(execOp (Rely.look (get (envS N L (C.map Kn.val) s.reads))) o).run P W=.ok (.value (.pointer (some ⟨W.heap.size,0,none⟩))) (W.alloc (.cells cs T)))
    (hk:Qc3 P Rd w0 base N L U F os ss (C++[.new cs T])):Qc3 P Rd w0 base N L U F (o::os) (s::ss) C :=
  t_op (.new cs T) hu hs hg hd (fun W hR=>by
    rw [h]
    refine ⟨QaJ _ _,_,rfl,?_,heap_alloc_new _ _⟩
    have:=hR.size
    omega) hk
end
end Go.Proofs.YtdoadngmgmdlbaaDoor.Auto
end
section
section
namespace Go.Proofs.YtdoadngmgmdlbaaDoor.Rely
open Go
section
variable {P : Program} {R : World → World → Prop} {w0 : World} {r0 : Tmp → Value} {F : List Fact → Prop} {o : Oper} {os : List Oper} {s : Src} {ss : List Src} {E : List Fact}
theorem Qay (c : Value) (h:∀ (ρ:Tmp→Value) (W:World),R w0 W→Qca r0 E ρ W s.reads→guarded s.guard ρ (QaU P R o ρ W fun v _=>v=c) (undef=c))
    (hk:relies P R w0 r0 F os ss (E++[fun v _=>v=c])):relies P R w0 r0 F (o::os) (s::ss) E :=
  ⟨fun v _=>v=c,fun _ _ _ _ h=>h,h,hk⟩
end
end Go.Proofs.YtdoadngmgmdlbaaDoor.Rely
end
section
namespace Go.Proofs.YtdoadngmgmdlbaaDoor.Rely
open Go Go.RowKit
theorem Qls (W : World) (n:Nat):Ext W (W.drewN n):=⟨rfl,rfl,rfl,qR _,fun _ _=>rfl⟩
end Go.Proofs.YtdoadngmgmdlbaaDoor.Rely
end
section
namespace Go.Proofs.YtdoadngmgmdlbaaDoor.Rely
open Go Go.RowKit
theorem Qgh (xs : List Int) (i:Nat) (v:Int) (h:i<xs.length):nth (xs.set i v) i=v:=by simp [nth,h]
theorem nth_set_ne (xs : List Int) (i j:Nat) (v:Int) (h:i≠j):nth (xs.set i v) j=nth xs j:=by
  simp [nth,List.getElem?_set_ne h]
theorem Qbi {P : Program} {o:Oper} {ρ:Tmp→Value} {W:World} (ty:TypeId) (x:Operand) (ho:o.op=.load ty x)
    (g:Nat) (hx:look ρ x=.pointer (some ⟨g,0,none⟩)) (t:TypeId) (cs:Array Value) (fr:Nat×Nat) (d:TypeDesc) (hg:W.heap[g]? = some (.cells cs t fr))
    (hu:P.underlying ty=some d) (hd:(match d with | .struct _ | .array _ _=>true | _=>false)=true) (hi:(P.info? ty).map (·.size)=some cs.size) :
    QaU P Ext o ρ W (fun v _=>v=.agg cs):=by
  unfold QaU execOp
  simp only [ho,hx,Instr.loadAt,Instr.sureAddr,Sem.run_bind,Sem.run_pure,Result.andThen_ok,run_loadVar_row W g t ty cs fr d hg hu hd hi]
  exact ⟨Ext.refl _,rfl⟩
end Go.Proofs.YtdoadngmgmdlbaaDoor.Rely
end
section
namespace Go.Proofs.YtdoadngmgmdlbaaDoor.Rely
open Go Go.RowKit
theorem Qck {W : World} {g:Nat} {cs:Array Value} {t:TypeId} (i:Nat) (v:Value) (h:W.heap[g]? = some (.cells cs t)):(W.setCell ⟨g,i,none⟩ v).heap[g]? = some (.cells (cs.setIfInBounds i v) t):=by
  simp [World.setCell,Array.getElem?_modify,h]
theorem Qa6 {W : World} {g k:Nat} (i:Nat) (v:Value) (hk:k≠g):(W.setCell ⟨g,i,none⟩ v).heap[k]? = W.heap[k]?:=by
  simp [World.setCell,Array.getElem?_modify,Ne.symm hk]
theorem Qcl {w W:World} {g:Nat} (h:Ext w W) (hg:w.heap.size≤g) (i:Nat) (v:Value):Ext w (W.setCell ⟨g,i,none⟩ v):=h.setCell (p:=⟨g,i,none⟩) hg v
theorem QaO {w W:World} {g:Nat} (h:Ext w W) (hg:w.heap.size≤g) (cs:Array Value):Ext w (W.setRow g cs) :=
  ⟨h.os,h.tape,h.output,by simpa using h.size,fun k hk=>(setRow_other W g k cs (by omega)).trans (h.block k hk)⟩
end Go.Proofs.YtdoadngmgmdlbaaDoor.Rely
end
section
namespace Go.Proofs.YtdoadngmgmdlbaaDoor.Rely
open Go Go.RowKit
theorem QbE {F : Fence} {n:Nat} {P:Program} {ops:Array Oper} {rest:List Oper} {o:Oper} {a:Act} {w:World} {Q:Exit→Act→World→Prop} (hgd:o.guard=none) (ty:TypeId) (x:Operand) (ho:o.op=.load ty x)
    (g:Nat) (hx:a.eval x=.pointer (some ⟨g,0,none⟩)) (t:TypeId) (cs:Array Value) (fr:Nat×Nat) (d:TypeDesc) (hg:w.heap[g]? = some (.cells cs t fr))
    (hu:P.underlying ty=some d) (hd:(match d with | .struct _ | .array _ _=>true | _=>false)=true) (hi:(P.info? ty).map (·.size)=some cs.size)
    (h:wpListIn F n P ops Q rest (a.put o.dst (.agg cs)) w):wpListIn F n P ops Q (o::rest) a w:=by
  refine wpListIn_plain hgd fun K hK'=>?_
  unfold Oper.wpIn
  refine ⟨?_,?_⟩
  · simp [Oper.about,ho]
  · rw [Oper.semAt_plain F _ _ (by rw [ho]; intro c hc'; cases hc')]
    unfold execOp
    simp only [ho,hx,Instr.loadAt,Instr.sureAddr,Sem.run_bind,Sem.run_pure,Result.andThen_ok,run_loadVar_row w g t ty cs fr d hg hu hd hi]
    exact hK' _ _ h
theorem Qb5 {F : Fence} {n:Nat} {P:Program} {ops:Array Oper} {rest:List Oper} {o:Oper} {a:Act} {w:World} {Q:Exit→Act→World→Prop} (hgd:o.guard=none) (ty:TypeId) (x y:Operand) (ho:o.op=.store ty x y)
    (g:Nat) (cells:Array Value) (hx:a.eval x=.pointer (some ⟨g,0,none⟩)) (hy:a.eval y=.agg cells)
    (t:TypeId) (old:Array Value) (hg:w.heap[g]? = some (.cells old t (0,0))) (hi:(P.info? ty).map (·.size)=some cells.size)
    (hold:old.size=cells.size) (h1:cells.all (·.oneCell')=true)
    (h:wpListIn F n P ops Q rest (a.put o.dst undef) (w.setRow g cells)):wpListIn F n P ops Q (o::rest) a w:=by
  refine wpListIn_plain hgd fun K hK'=>?_
  unfold Oper.wpIn
  refine ⟨?_,?_⟩
  · simp [Oper.about,ho]
  · rw [Oper.semAt_plain F _ _ (by rw [ho]; intro c hc'; cases hc')]
    unfold execOp
    simp only [ho,hx,hy,Instr.storeAt,Instr.sureAddr,Sem.run_bind,Sem.run_pure,Result.andThen_ok,run_storeVar_row w g t ty old cells hg hi hold h1]
    exact hK' _ _ h
theorem Qdc {W : World} {g:Nat} {cs:Array Value} {t:TypeId} (hg:W.heap[g]? = some (.cells cs t)) (new:Array Value):KeepsOthers W (W.setRow g new) :=
  ⟨by simp,fun k o hk ho=>by
    refine (setRow_other W g k new fun e=>?_).trans hk
    subst e
    rw [hg] at hk
    cases hk
    cases ho⟩
theorem QeI {n : Nat} {W W':World} (h:Ext W W') (hn:n≤W.heap.size):Below n W W':=h.mono hn
theorem QdI {n : Nat} {a W:World} (h:Below n a W) {g:Nat} (hg:n≤g) (cs:Array Value):Below n a (W.setRow g cs) :=
  ⟨h.os,h.tape,h.output,by simpa using h.size,fun k hk=>(setRow_other W g k cs (by omega)).trans (h.block k hk)⟩
end Go.Proofs.YtdoadngmgmdlbaaDoor.Rely
end
section
namespace Go.Proofs.YtdoadngmgmdlbaaDoor.Rely
open Go
def Qj0 (D : List Nat) (E:List Fact):Prop:=∀ j∈D,∀ u W,(E.getD j fun _ _=>True) u W→∃ g,u=.pointer (some ⟨g,0,none⟩)∧g<W.heap.size
section
variable {P : Program} {R : World → World → Prop} {w0 : World} {a0 : Act}
theorem QfW {l : List Oper} {n N:Nat} {S:List Src} {E:List Fact} {D:List Nat} {Q:Exit→Act→World→Prop} (hD:Qdg l D=true) (hB:Qj0 D E) (hok:ok l n N S=true) (hN:a0.tmps.size=N) (hrf:∀ a,R a a) (htr:∀ {a b c:World},R a b→R b c→R a c)
    (hE:E.length=(l.take n).length) (hst:∀ φ∈E,QbL R φ)
    (hop:∀ j o s,(l.take n)[j]? = some o→S[j]? = some s→opOk P R w0 (slots a0) E o s (E.getD j fun _ _=>True))
    (hfin:∀ W,R w0 W→finP (fun a W=>wpList P l.toArray Q (l.drop n) a W) D (l.take n) E 0 [] a0 W) :
    ∀ (fuel:Nat) (listed:Array Bool) (a:Act) (W:World) (vs:Nat→Value),Inv R w0 a0 l.toArray E n listed a W vs→Qkd D n listed vs→fuel=left l.toArray listed→wpAny P .any l.toArray Q fuel listed a W:=by
  simp only [ok,Bool.and_eq_true,decide_eq_true_eq] at hok
  obtain ⟨⟨⟨⟨⟨hn,hsrc⟩,hdst⟩,hedge⟩,htail⟩,hdt⟩:=hok
  have hlen:(l.take n).length=n:=by simp [hn]
  have hget:∀ i,i<n→(l.take n)[i]? = l[i]?:=fun i hi=>by simp [hi]
  have hgd:∀ i,(E.getD i fun _ _=>True)=(fun _ _=>True)∨(E.getD i fun _ _=>True)∈E:=fun i=>by
    rcases Nat.lt_or_ge i E.length with h | h
    · right; simp [h]
    · left; simp [List.getElem?_eq_none h]
  have hstg:∀ i,QbL R (E.getD i fun _ _=>True):=fun i=>by
    rcases hgd i with h | h
    · rw [h]; exact fun _ _ _ _ _=>trivial
    · exact hst _ h
  have hanc:∀ j i,((masks l #[]).getD j 0).testBit i=true→Anc l.toArray i j:=QdB l.toArray l #[] (fun j=>by simp) (fun j i h=>by simp at h)
  have count:∀ (listed:Array Bool),(∀ i,i<n→listed.getD i true=true)→(∀ i,n≤i→i<l.length→listed.getD i true=false)→left l.toArray listed=l.length-n:=by
    intro listed h1 h2
    unfold left
    simp only [List.size_toArray]
    have:∀ m,m≤l.length→(List.range m).countP (fun i=>!listed.getD i true)=m-n:=by
      intro m
      induction m with
      | zero=>intro _; simp
      | succ m ih =>
        intro hm
        rw [List.range_succ,List.countP_append,ih (by omega),List.countP_singleton]
        by_cases hmn:m<n
        · simp only [h1 m hmn,Bool.not_true,Bool.false_eq_true,if_false]; omega
        · simp only [h2 m (by omega) (by omega),Bool.not_false,if_true]; omega
    exact this l.length (qR _)
  have done:∀ (fuel:Nat) (listed:Array Bool) (a:Act) (W:World) (vs:Nat→Value),Inv R w0 a0 l.toArray E n listed a W vs→Qkd D n listed vs→fuel=left l.toArray listed→(∀ i,i<n→listed.getD i true=true)→wpAny P .any l.toArray Q fuel listed a W:=by
    intro fuel listed a W vs inv hpr hf hall
    have hs:listed.size=l.length:=by simpa using inv.size
    have hall':∀ i,i<n→listed.getD i false=true:=fun i hi=>by
      cases hx:listed.getD i false with
      | true=>rfl
      | false=>have:=getD_in (by omega) hx; rw [hall i hi] at this; cases this
    refine Qgc htail hedge fuel n listed a W (qR _) hn hs inv.closed hall' inv.tail (by rw [hf]; exact count listed hall (fun i h1 h2=>getD_in (by omega) (inv.tail i h1))) ?_
    have hq:=QgV (D:=D) (l.take n) E a0 vs 0 [] (hfin W inv.rel) hE (fun i hi=>by
      rw [Nat.zero_add]
      exact inv.facts i (hall' i (by omega)) (by omega)) (fun u hu=>by cases hu) (fun i k hi hk hin hkn hne=>hpr i k hi hk (hall' i (by omega)) (hall' k (by omega)) (by omega) (by omega) hne)
    have heq:QaY (l.take n) vs 0 a0=a:=by
      have hsz:=QcO (l.take n) vs 0 a0
      have ht:(QaY (l.take n) vs 0 a0).tmps=a.tmps:=by
        refine Array.ext_getElem? fun t=>?_
        by_cases hw:∃ (i:Nat) (o:Oper),(l.take n)[i]? = some o∧o.dst=some t
        · obtain ⟨i,o,hi,ho⟩:=hw
          have hin:i<n:=by have:=(List.getElem?_eq_some_iff.1 hi).1; omega
          rw [Qcy (l.take n) vs 0 a0 t i o hdst hN hi ho,Nat.zero_add]
          exact (inv.vals i o t (hall' i hin) hin (by rw [hget i hin] at hi; simpa using hi) ho).symm
        · rw [Qcd (l.take n) vs 0 a0 t (fun o ho he=>by
            obtain ⟨i,hi⟩:=List.mem_iff_getElem?.1 ho
            exact hw ⟨i,o,hi,he⟩)]
          refine (inv.rest t fun i o _ hin hi he=>hw ⟨i,o,by rw [hget i hin]; simpa using hi,he⟩).symm
      have hd:=hsz.2.trans inv.defers.symm
      generalize QaY (l.take n) vs 0 a0=b at *
      cases a; cases b
      simp_all
    rw [heq] at hq
    exact hq
  have main:∀ (fuel:Nat) (listed:Array Bool) (a:Act) (W:World) (vs:Nat→Value),Inv R w0 a0 l.toArray E n listed a W vs→Qkd D n listed vs→fuel=left l.toArray listed→wpAny P .any l.toArray Q fuel listed a W:=by
    intro fuel
    induction fuel with
    | zero =>
      intro listed a W vs inv hpr hf
      refine done 0 listed a W vs inv hpr hf fun i hi=>?_
      cases hx:listed.getD i true with
      | true=>rfl
      | false =>
        have:=QgO (ops:=l.toArray) (by simp; omega) hx
        omega
    | succ fuel ih =>
      intro listed a W vs inv hpr hf
      by_cases hA:∀ i,i<n→listed.getD i true=true
      · exact done _ listed a W vs inv hpr hf hA
      · have hs:listed.size=l.length:=by simpa using inv.size
        obtain ⟨i0,hi0,hu0⟩:∃ i,i<n∧listed.getD i true=false:=by
          refine Classical.byContradiction fun hc=>hA fun i hi=>?_
          cases hx:listed.getD i true with
          | true=>rfl
          | false=>exact absurd ⟨i,hi,hx⟩ hc
        refine ⟨fun hr=>?_,fun j hj=>?_⟩
        · obtain ⟨j,hj⟩:=QcM hedge (listed:=listed) i0 (by omega) hu0
          rw [hr] at hj; cases hj
        · obtain ⟨hju,oj,hoj,_⟩:=mem_ready.1 hj
          have hoj':l[j]? = some oj:=by simpa using hoj
          have hjl:j<l.length:=(List.getElem?_eq_some_iff.1 hoj').1
          have hjn:j<n:=by
            rcases Nat.lt_or_ge j n with h | h
            · exact h
            · exfalso
              have h3:=List.all_eq_true.1 htail j (List.mem_range.2 hjl)
              simp only [Bool.or_eq_true,decide_eq_true_eq] at h3
              rcases h3 with h3 | h3
              · omega
              · have h4:=List.all_eq_true.1 h3 i0 (List.mem_range.2 (by omega))
                have:=QbK inv.closed hj (hanc j i0 h4)
                rw [Qbk this] at hu0
                cases hu0
          obtain ⟨s,hsj,hso⟩:=Qfl (l.take n) S 0 hsrc j oj (by rw [hget j hjn]; exact hoj')
          rw [Nat.zero_add] at hso
          simp only [Qj8,Bool.and_eq_true] at hso
          obtain ⟨hg,hrd⟩:=hso
          have hg':Qd0 l.toArray oj=some s.guard:=by simpa using hg
          have holds:∀ (r:List (Tmp×Option Nat)),r.all (QdY l (masks l #[]) j)=true→Qca (slots a0) E (slots a) W r:=by
            intro r
            induction r with
            | nil=>intro _; trivial
            | cons x r ihr =>
              intro hr
              simp only [List.all_cons,Bool.and_eq_true] at hr
              obtain ⟨t,si⟩:=x
              cases si with
              | none =>
                refine ⟨?_,ihr hr.2⟩
                have h1:=hr.1
                simp only [QdY] at h1
                have h2:a.tmps[t]? = a0.tmps[t]?:=inv.rest t fun i o hli hin hio hd=>by
                  have h3:=List.all_eq_true.1 h1 (o,i) (by
                    rw [List.mem_iff_getElem?]
                    refine ⟨i,?_⟩
                    rw [List.getElem?_zipIdx]
                    have:l[i]? = some o:=by simpa using hio
                    simp [this])
                  simp only [hd,bne_self_eq_false,Bool.false_or,Bool.or_eq_true,beq_iff_eq] at h3
                  have hlj:listed.getD j false=true:=by
                    rcases h3 with h3 | h3
                    · exact inv.closed.anc (hanc i j h3) hli
                    · rw [←h3]; exact hli
                  rw [Qbk hlj] at hju
                  cases hju
                simp only [slots,Array.getD_eq_getD_getElem?,h2]
              | some i =>
                refine ⟨?_,ihr hr.2⟩
                have h1:=hr.1
                simp only [QdY,Bool.and_eq_true,decide_eq_true_eq,beq_iff_eq] at h1
                obtain ⟨⟨hij,hbit⟩,hdi⟩:=h1
                have hli:=QbK inv.closed hj (hanc j i hbit)
                obtain ⟨oi,hoi,hdi'⟩:∃ oi,l[i]? = some oi∧oi.dst=some t:=by
                  cases hx:l[i]? with
                  | none=>rw [hx] at hdi; cases hdi
                  | some oi=>rw [hx] at hdi; exact ⟨oi,rfl,hdi⟩
                have hv:=inv.vals i oi t hli (by omega) (by simpa using hoi) hdi'
                have:slots a t=vs i:=by simp only [slots,Array.getD_eq_getD_getElem?,hv,Option.getD_some]
                rw [this]
                exact inv.facts i hli (by omega)
          have hopj:=hop j oj s (by rw [hget j hjn]; exact hoj') hsj (slots a) W inv.rel (holds s.reads hrd)
          have next:∀ v W',R W W'→((E.getD j fun _ _=>True) v W'∧(j∈D→v=.pointer (some ⟨W.heap.size,0,none⟩)))→wpAny P .any l.toArray Q fuel (listed.setIfInBounds j true) (a.put oj.dst v) W':=by
            intro v W' hR ⟨hφ,hfresh⟩
            have hjs:j<listed.size:=by omega
            have hlist:∀ i,(listed.setIfInBounds j true).getD i false=true→i=j∨listed.getD i false=true:=fun i hi=>by
              by_cases hij:j=i
              · exact .inl hij.symm
              · rw [getD_set_ne false hij] at hi; exact .inr hi
            refine ih _ _ W' (fun i=>if i=j then v else vs i) ⟨by simp [inv.size],inv.closed.set hj,htr inv.rel hR,(Qdm _ _ _).trans inv.defers,(QdP _ _ _).trans inv.asize,?_,?_,?_,?_⟩ ?_ ?_
            · intro i hi hin
              by_cases hij:i=j
              · subst hij; simpa using hφ
              · simp only [hij,if_false]
                rcases hlist i hi with h | h
                · exact absurd h hij
                · exact hstg i _ _ _ hR (inv.facts i h hin)
            · intro i o d hi hin hio hd
              by_cases hij:i=j
              · subst hij
                obtain rfl:o=oj:=Option.some.inj (hio.symm.trans hoj)
                rw [hd,Qdl _ _ _ (by rw [inv.asize,hN]; exact QfM (l.take n) hdst i o d (by rw [hget i hin]; exact hoj') hd)]
                simp
              · simp only [hij,if_false]
                rcases hlist i hi with h | h
                · exact absurd h hij
                · rw [Qce _ _ _ _ (QfL (l.take n) hdst i j o oj d (by rw [hget i hin]; simpa using hio) (by rw [hget j hjn]; exact hoj') hij hd)]
                  exact inv.vals i o d h hin hio hd
            · intro t ht
              rw [Qce _ _ _ _ (ht j oj (by simp [Array.getElem?_setIfInBounds_self_of_lt hjs]) hjn hoj)]
              exact inv.rest t fun i o hi hin hio=>ht i o (getD_set_true hi) hin hio
            · intro i hi
              rw [getD_set_ne false (by omega)]
              exact inv.tail i hi
            · have old:∀ k,k∈D→listed.getD k false=true→k<n→j∈D→vs k≠v:=fun k hk hl hkn hjD he=>by
                obtain ⟨g,hg1,hg2⟩:=hB k hk _ _ (inv.facts k hl hkn)
                rw [hg1,hfresh hjD] at he
                simp only [Value.pointer.injEq,Option.some.injEq,Addr.mk.injEq,and_true] at he
                omega
              intro i k hi hk hli hlk hin hkn hne
              by_cases hij:i=j
              · by_cases hkj:k=j
                · exact absurd (hij.trans hkj.symm) hne
                · simp only [hij,hkj,if_true,if_false]
                  exact (old k hk ((hlist k hlk).resolve_left hkj) hkn (hij▸hi)).symm
              · by_cases hkj:k=j
                · simp only [hij,hkj,if_true,if_false]
                  exact old i hi ((hlist i hli).resolve_left hij) hin (hkj▸hk)
                · simp only [hij,hkj,if_false]
                  exact hpr i k hi hk ((hlist i hli).resolve_left hij) ((hlist k hlk).resolve_left hkj) hin hkn hne
            · have:=Qe6 hju inv.size
              omega
          refine Qcm hoj ?_
          rw [Qcv hg']
          by_cases hb:gOk s.guard (slots a)=true
          · rw [if_pos hb]
            refine Qf2 (R:=R) (W:=W) (φ:=fun v W'=>(E.getD j fun _ _=>True) v W'∧(j∈D→v=.pointer (some ⟨W.heap.size,0,none⟩))) (fun {_ _ _} h1 h2=>htr h1 h2) ?_ next
            cases hgd':s.guard with
            | none=>rw [hgd'] at hopj; exact Qdb hD hoj' hopj
            | some db =>
              rw [hgd'] at hopj hb
              exact Qdb hD hoj' ((if_pos hb).mp hopj)
          · rw [if_neg hb]
            refine next undef W (hrf W) ⟨?_,fun hjD=>absurd (noguard hD hjD hoj' hg') (fun e=>hb (by rw [e]; rfl))⟩
            cases hgd':s.guard with
            | none=>rw [hgd'] at hb; exact absurd rfl hb
            | some db =>
              rw [hgd'] at hopj hb
              exact (if_neg hb).mp hopj
  exact main
def Qj1 {P : Program} {R:World→World→Prop} {Q:Exit→Act→World→Prop} {a:Act} {w:World} {l:List Oper} {n:Nat} {D:List Nat} (F:List Fact→Prop):Prop :=
  ∀ E,Qj0 D E→(∀ W,R w.drew W→finP (fun a W=>wpList P l.toArray Q (l.drop n) a W) D (l.take n) E 0 [] a W)→F E
theorem Qj1.out {P : Program} {R:World→World→Prop} {Q:Exit→Act→World→Prop} {a:Act} {w:World} {l:List Oper} {n:Nat} {D:List Nat} {F:List Fact→Prop} (h:Qj1 (P:=P) (R:=R) (Q:=Q) (a:=a) (w:=w) (l:=l) (n:=n) (D:=D) F) {E:List Fact} (b:Qj0 D E)
    (k:∀ W,R w.drew W→finP (fun a W=>wpList P l.toArray Q (l.drop n) a W) D (l.take n) E 0 [] a W):F E:=h E b k
theorem Qfv {id : Nat} {Q:Exit→Act→World→Prop} {a:Act} {w:World} {l:List Oper} (R:World→World→Prop) (n N:Nat) (S:List Src) (D:List Nat) (hD:Qdg l D=true) (hm:P.follows .mixedOrders=true) (hok:ok l n N S=true) (hN:a.tmps.size=N)
    (hrf:∀ a,R a a) (htr:∀ {a b c:World},R a b→R b c→R a c)
    (h:∀ (F:List Fact→Prop) (r0:Tmp→Value),r0=slots a→Qj1 (P:=P) (R:=R) (Q:=Q) (a:=a) (w:=w) (l:=l) (n:=n) (D:=D) F→relies P R w.drew r0 F (l.take n) S []):(Code.region id l.toArray true).wp P Q a w:=by
  have hok':=hok
  simp only [ok,Bool.and_eq_true,decide_eq_true_eq] at hok'
  obtain ⟨⟨⟨⟨⟨hn,hsrc⟩,hdst⟩,hedge⟩,htail⟩,hdt⟩:=hok'
  obtain ⟨E,hl,_,hst,hop,hB,hfin⟩:=Qd8 (M:=masks l #[]) (l.take n) S [] (h (fun E=>Qj0 D E∧∀ W,R w.drew W→finP (fun a W=>wpList P l.toArray Q (l.drop n) a W) D (l.take n) E 0 [] a W) _ rfl (show Qj1 _ from fun _ b h=>⟨b,h⟩)) hsrc (fun _ h=>by cases h)
  refine wp_region_any hm ?_
  have hcount:l.toArray.size=left l.toArray (Array.replicate l.toArray.size false):=by
    unfold left
    have:∀ m,m≤l.toArray.size→(List.range m).countP (fun i=>!(Array.replicate l.toArray.size false).getD i true)=m:=by
      intro m
      induction m with
      | zero=>intro _; simp
      | succ m ih =>
        intro hm
        rw [List.range_succ,List.countP_append,ih (by omega),List.countP_singleton]
        have:(Array.replicate l.toArray.size false).getD m true=false:=by simp at hm ⊢; simp [show m<l.length by omega]
        simp only [this,Bool.not_false,if_true]
    exact (this _ (qR _)).symm
  refine QfW (R:=R) (w0:=w.drew) (a0:=a) hD hB hok hN hrf htr (by simpa using hl) hst (fun j o s hj hs=>by simpa using hop j o s hj hs) hfin _ _ a _ (fun _=>undef) ⟨by simp,?_,hrf _,rfl,rfl,?_,?_,?_,?_⟩ ?_ hcount
  · intro j o ho hl
    rw [getD_replicate_false] at hl; cases hl
  · intro i hi; rw [getD_replicate_false] at hi; cases hi
  · intro i o d hi; rw [getD_replicate_false] at hi; cases hi
  · intro t _; rfl
  · intro i _; exact getD_replicate_false _ _
  · intro i k _ _ hi; rw [getD_replicate_false] at hi; cases hi
end
end Go.Proofs.YtdoadngmgmdlbaaDoor.Rely
end
section
namespace Go.Proofs.YtdoadngmgmdlbaaDoor.Auto
open Go Go.RowKit
open Rely
variable {ds : List Deferred}
section
variable {P : Program} {w0 : World} {base N : Nat} {L : Env} {F : List Kn → Prop} {o : Oper} {os : List Oper} {s : Src} {ss : List Src} {C : List Kn}
theorem QbN (cs : Array Value) (T:TypeId) (hs:seen C o s=true) (hb:base≤w0.heap.size) (hg:gOk s.guard (get (envS N L (C.map Kn.val) s.reads))=true)
    (h:∀ W,(execOp (Rely.look (get (envS N L (C.map Kn.val) s.reads))) o).run P W=.ok (.value (.pointer (some ⟨W.heap.size,0,none⟩))) (W.alloc (.cells cs T)))
    (hk:steps P w0 base N L F os ss (C++[.new cs T])):steps P w0 base N L F (o::os) (s::ss) C :=
  Qjz (.new cs T) hs hg (fun W hR=>by
    rw [h]
    refine ⟨QaJ _ _,_,rfl,?_,heap_alloc_new _ _⟩
    have:=hR.size
    omega) hk
end
theorem QfI {base : Nat} {W:World}:∀ (os:List Oper) (C:List Kn) (acc:List Nat) (L:Env) (A B:Env→World→Prop),(∀ L W,A L W→B L W)→fins base A os C acc L W→fins base B os C acc L W
  | [],C,acc,L,A,B,h,hh=>by cases C <;> exact h _ _ hh
  | o::os,[],acc,L,A,B,h,hh=>h _ _ hh
  | o::os,.is c::C,acc,L,A,B,h,hh=>QfI os C acc _ A B h hh
  | o::os,.new cs T::C,acc,L,A,B,h,hh=>fun g h1 h2 h3=>QfI os C _ _ A B h (hh g h1 h2 h3)
theorem Qbd {P : Program} {id:Nat} {Q:Exit→Act→World→Prop} {N:Nat} {L:Env} {w:World} {l:List Oper} (n:Nat) (S:List Src) (D:List Nat) (hD:Qdg l D=true) (hm:P.follows .mixedOrders=true) (hok:ok l n N S=true)
    (h:∀ F:List Kn→Prop,(∀ C,QdZ C 0=D→(∀ W,Ext w W→fins w.heap.size (fun L W=>WL P l.toArray Q (l.drop n) (Qa4 ds N L) W) (l.take n) C [] L W)→F C)→steps P w.drew w.heap.size N L F (l.take n) S []) :
    (Code.region id l.toArray true).wp P Q (Qa4 ds N L) w:=by
  refine Qfv Ext n N S D hD hm hok (QdM N L) Ext.refl Ext.trans fun F r0 hr hF=>?_
  rw [Qcs] at hr
  subst hr
  have:=h (fun C=>QdZ C 0=D∧∀ W,Ext w W→fins w.heap.size (fun L W=>WL P l.toArray Q (l.drop n) (Qa4 ds N L) W) (l.take n) C [] L W) (fun C h1 h2=>⟨h1,h2⟩)
  refine Qd5 (F:=fun C=>QdZ C 0=D∧∀ W,Ext w W→fins w.heap.size (fun L W=>WL P l.toArray Q (l.drop n) (Qa4 ds N L) W) (l.take n) C [] L W) (G:=F) (fun C h=>hF.out ?_ fun W hR=>?_) _ _ [] this
  · intro j hj u W hu
    obtain ⟨cs,T,hc⟩:=QdQ C C 0 (fun j=>by rw [Nat.zero_add]) j (by rw [h.1]; exact hj)
    have:(List.map (Kn.fact w.heap.size) C).getD j (fun _ _=>True)=Kn.fact w.heap.size (.new cs T):=by simp [hc]
    rw [this] at hu
    obtain ⟨g,h1,h2,h3⟩:=hu
    exact ⟨g,h1,Qa3 h3⟩
  · exact QeA (Q:=fun a W=>wpList P l.toArray Q (l.drop n) a W) _ _ 0 [] L (fun i _=>by rw [h.1]; simp) (QfI _ _ _ _ _ _ (fun L W hh=>hh.out) (h.2 W (Rely.Ext.trans (Qai w) hR)))
end Go.Proofs.YtdoadngmgmdlbaaDoor.Auto
end
section
namespace Go.Proofs.YtdoadngmgmdlbaaDoor.Auto
open Go Go.RowKit
open Rely
variable {ds : List Deferred} {Fe : Fence} {nf : Nat}
section
variable {P : Program} {ops : Array Oper} {Q : Exit → Act → World → Prop} {rest : List Oper} {o : Oper} {N : Nat} {L : Env} {w : World}
theorem Qdy (v : Value) (f:FuncId) (args:Array Value) (d:Nat) (hd:o.dst=some d) (hF:Free Fe nf P) (hnd:Qee o=true) (hg:QcL ops o N L=some true) (h:(execOp (Rely.look (envN N L)) o).run P w=.ok (.enter f args) w)
    (hc:Calls P f args w (Ret w v)) (k:∀ W:World,Ext w W→WLI Fe nf P ops Q rest (Qa4 ds N ((d,v)::L)) W):WLI Fe nf P ops Q (o::rest) (Qa4 ds N L) w :=
  Qpg hF hnd hg fun K hK=>by
    rw [h]
    refine ⟨hF.dp,(hF.calls hc).mono ?_⟩
    rintro e w' ⟨rfl,hw⟩
    show K _ _
    rw [hd,Qcz]
    exact hK _ _ (k _ hw)
end
section
variable {P : Program} {Q : Exit → Act → World → Prop} {w : World} {N : Nat} {L : Env}
theorem QdD {c : Operand} {x y:Code} (hc:Rely.look (envN N L) c=.bool true) (h:x.wpIn Fe nf P Q (Qa4 ds N L) w):(Code.cond c x y).wpIn Fe nf P Q (Qa4 ds N L) w:=wpIn_cond_true (by rw [Qch]; exact hc) h
theorem Qdx {c : Operand} {x y:Code} (hc:Rely.look (envN N L) c=.bool false) (h:y.wpIn Fe nf P Q (Qa4 ds N L) w):(Code.cond c x y).wpIn Fe nf P Q (Qa4 ds N L) w:=wpIn_cond_false (by rw [Qch]; exact hc) h
end
end Go.Proofs.YtdoadngmgmdlbaaDoor.Auto
end
section
namespace Go.Proofs.YtdoadngmgmdlbaaDoor.Auto
open Go Go.RowKit
open Rely
variable {ds : List Deferred}
theorem QeM {α : Type} {P:Program} {g:Operand} {p:Tmp} {assign body:Code} {Q:Exit→Act→World→Prop} {N:Nat} {L:Env} {w:World}
    {gf:Nat} {lb:Array Value} (hg:Rely.look (envN N L) g=.func (.func gf) #[] lb) (eg:∀ args w,(callFunc gf args).run P w=.ok (.enter gf args) w)
    {enc:α→Value} {Kp:World→World→Prop} {S Sp:List α→Prop} {M:Nat} {w0:World} (hseq:SeqStopsK Fence.wide 2 P gf lb (fun x=>#[enc x]) Kp S Sp M w0)
    (hKt:∀ {A B C:World},Kp A B→Kp B C→Kp A C) (hKb:∀ (W:World) (l:Nat) (o o':Obj),w.heap.size≤l→W.heap[l]? = some o→o.isCells=false→o.isWalk=false→Kp W (W.putObj l o')) (hb0:Below w0.heap.size w0 w)
    (I:List α→World→Prop) (Ix:Code→List α→World→Prop) (hI:OwnFrom w.heap.size I) (hIx:∀ c,OwnFrom w.heap.size (Ix c)) (h0:I [] w) (asg:α→Env)
    (hassign:∀ (l:Nat) (x:α) (W:World) (K:Act→World→Prop),K (Qa4 [] N (asg x++L)) W→assign.wpIn (Fence.wide.inRound l) 1 P (Exit.then K (fun _ _ _=>False)) (Qa4 [] N ((p,enc x)::L)) W)
    (hbody:∀ (l:Nat) (pre:List α) (x:α) (W:World),I pre W→pre.length<M→body.wpIn (Fence.wide.inRound l) 1 P (ownPostK Kp I Ix (pre++[x]) W) (Qa4 [] N (asg x++L)) W)
    (hdone:∀ (D:Nat) (xs:List α) (W:World),w.heap.size≤D→S xs→I xs W→W.heap[D]? = some (.deferred (some []))→Q .normal (Qa4 (mark D::ds) N L) W)
    (hstop:∀ (D:Nat) (c:Code) (pre:List α) (W:World),w.heap.size≤D→Sp pre→Ix c pre W→W.heap[D]? = some (.deferred (some []))→c.wp P Q (Qa4 (mark D::ds) N L) W) :
    (Code.rangeFunc g #[p] assign body).wp P Q (Qa4 ds N L) w:=by
  refine (wpIn_wide (n:=3)).1 ?_
  refine wpIn_rangeFunc_ownF rfl (by omega) (by rw [Qch]; exact hg) trivial eg (w0:=w0) hseq hKt hKb hb0 (fun _=>rfl) I Ix hI hIx h0 (fun x=>Qa4 [] N (asg x++L)) (fun l x W K hK=>?_) hbody ?_ ?_
  · rw [Qin]
    exact hassign l x W K hK
  · intro D xs W h1 h2 h3 h4
    exact hdone D xs W h1 h2 h3 h4
  · intro D c pre W h1 h2 h3 h4
    exact wpIn_wide.2 (hstop D c pre W h1 h2 h3 h4)
theorem Qix {W : World} {g D:Nat} {cs:Array Value} {t:TypeId} {b:Option (List Deferred)} (h:W.heap[g]? = some (.cells cs t)) (hD:W.heap[D]? = some (.deferred b)):D≠g:=fun e=>by
  subst e
  rw [h] at hD
  cases hD
section
variable {P : Program} {fn : Func} {R : Ending → World → Prop} {N : Nat} {L : Env} {w : World}
theorem Qol {D : Nat} {r:ResultVar} (v:Value) (hr:fn.results=#[r]) (hD:w.heap[D]? = some (.deferred (some []))) (h:QfZ P (w.putObj D (.deferred none)) N L r v) (k:R (.returned v) (w.putObj D (.deferred none))):bodyPostM Fence.wide 3 P fn R .ret (Qa4 [mark D] N L) w :=
  ⟨by simp,.inl ⟨_,_,rfl,run_takeDeferred hD,⟨_,Qfa hr h,k⟩⟩⟩
end
end Go.Proofs.YtdoadngmgmdlbaaDoor.Auto
end
section
namespace Go.Proofs.YtdoadngmgmdlbaaDoor.Auto
open Go Go.RowKit
open Rely
variable {ds : List Deferred}
theorem Qdz (n : Nat) (h:n<9223372036854775808):IntKind.i64.wrap ((n:Int)-1)=(n:Int)-1:=IntWalk.i64_in _ (by omega)
theorem Qcg (n : Nat) (h:n<9223372036854775807):IntKind.i64.wrap ((n:Int)+1)=((n+1:Nat):Int):=by
  rw [show ((n:Int)+1)=((n+1:Nat):Int) by omega]
  exact Qlf _ (by omega)
end Go.Proofs.YtdoadngmgmdlbaaDoor.Auto
end
end
