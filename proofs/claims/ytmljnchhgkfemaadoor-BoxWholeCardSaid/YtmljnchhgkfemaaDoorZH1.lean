/- Texts of this claim, joined (H1). -/
import Derived.Test.YtmljnchhgkfemaaDoorZH0
import Derived.Lib.AppendZeros
import Derived.Lib.AppendStr
import Derived.Sort.LoopGhostIn

set_option linter.unusedVariables false
set_option linter.unusedSimpArgs false
set_option maxHeartbeats 4000000
section
namespace Go.Proofs.YtmljnchhgkfemaaDoor.Sha
open Go Go.RowKit
open Rely Auto Own
def Qca : List Int:=QnX.map Int.ofNat
def Qbj : List Int:=[0x6a09e667f3bcc908,0xbb67ae8584caa73b,0x3c6ef372fe94f82b,0xa54ff53a5f1d36f1,0x510e527fade682d1,0x9b05688c2b3e6c1f,0x1f83d9abfb41bd6b,0x5be0cd19137e2179]
theorem QpR (i : Nat) (h:i<64):IntKind.u32.wrap (nth Qca i/4294967296)=wv (wget KK i):=by
  have:∀ i:Fin 64,IntKind.u32.wrap (nth Qca i.1/4294967296)=wv (wget KK i.1):=by decide +kernel
  exact this ⟨i,h⟩
theorem Qpr (n : Int):n.fdiv (2^min (32:Int).toNat IntKind.u64.bits)=n/4294967296:=Int.fdiv_eq_ediv_of_nonneg n (by decide)
def mixW (p q:List Wd) (i:Nat):List Wd:=(List.zipWith (· + ·) p q).take i++p.drop i
theorem mix_len (s r:S8) {i:Nat} (hi:i≤8):((mixW s.l r.l i).map wv).length=8:=by
  rcases (show i=0∨i=1∨i=2∨i=3∨i=4∨i=5∨i=6∨i=7∨i=8 by omega) with rfl | rfl | rfl | rfl | rfl | rfl | rfl | rfl | rfl <;> rfl
theorem QoI (s r:S8) {i:Nat} (hi:i<8):nth ((mixW s.l r.l i).map wv) i=wv (wget s.l i):=by
  rcases (show i=0∨i=1∨i=2∨i=3∨i=4∨i=5∨i=6∨i=7 by omega) with rfl | rfl | rfl | rfl | rfl | rfl | rfl | rfl <;> rfl
theorem mix_set (s r:S8) {i:Nat} (hi:i<8):((mixW s.l r.l i).map wv).set i (wv (wget s.l i+wget r.l i))=(mixW s.l r.l (i+1)).map wv:=by
  rcases (show i=0∨i=1∨i=2∨i=3∨i=4∨i=5∨i=6∨i=7 by omega) with rfl | rfl | rfl | rfl | rfl | rfl | rfl | rfl <;> rfl
theorem Qqq (g : Nat) (s:S8) (b:List Int) (hbl:b.length=64) (hbb:Qag b) (m:Int) (tc:TypeId) (w:World) (hc:w.heap[1]? = some (.cells (ints .u64 Qca) tc)) (hg:w.heap[g]? = some (.cells (cat [ints .u32 ([wv s.a,wv s.b,wv s.c,wv s.d,wv s.e,wv s.f,wv s.g,wv s.h]),ints .u8 (b),#[.int .i64 m]]) 114)) :
  Calls Tryd.prog 69 #[.pointer (some ⟨g,0,none⟩)] w (fun e W=>e=.returned (.tuple #[])∧ExtB g w W∧W.heap[g]? = some (.cells (cat [ints .u32 ((blk s b).l.map wv),ints .u8 b,#[.int .i64 m]]) 114)):=by
 have hl64:((w64 b).map wv).length=64:=by rw [List.length_map,Qe1]
 refine enter 137 [(0,.pointer (some ⟨g,0,none⟩))] Tryd.func69 rfl rfl kj rfl <| sgC fun K3 hK3=>sg 3 kj <| Qad (.agg (ints .u8 (b))) 23 rfl kj (Qat 98 _ g 8 114 _ _ _ hg rfl kj (Qa8 [ints .u32 ([wv s.a,wv s.b,wv s.c,wv s.d,wv s.e,wv s.f,wv s.g,wv s.h])] [ints .u8 (b)] [#[.int .i64 m]] 8 kj) kj (isz (n:=64) kj ((Qac _ _).trans hbl))) <| Qao (.agg (ints .u32 ((w64 b).map wv))) 81 #[.agg (ints .u8 (b))] 24 rfl kj kj ((Qom b hbl hbb) _) fun W1 e1=>?_
 have x1:=ExtB.ext (ExtB.refl g w) e1
 refine Qaj (ints .u32 (List.replicate 64 0)) 130 2 rfl kj kj fun g4 W2 l4 e2 r4_2=>Qah g4 _ (ints .u32 ((w64 b).map wv)) 130 r4_2 rfl kj (Qaf 130 _ _ g4 130 _ _ r4_2 rfl kj kj (isz (n:=64) kj ((Qac _ _).trans hl64)) (eqsz (n:=64) ((Qac _ _).trans (qZ (n:=64))) ((Qac _ _).trans hl64)) (ints_one _ _)) fun W3 p3 r4_3=>?_
 have x3:=ExtB.putsN (ExtB.ext x1 e2) p3 (qT x1.size l4)
 refine sgN hK3 <| sgC fun K5 hK5=>sg 3 kj ?_
 have r2_1:=(Qaa hg e1)
 have r2_3:=(Puts.row p3 (Qaa r2_1 e2) (Qab r2_1 l4))
 refine Qad (.agg (ints .u32 ([wv s.a,wv s.b,wv s.c,wv s.d,wv s.e,wv s.f,wv s.g,wv s.h]))) 28 rfl kj (Qat 112 _ g 0 114 _ _ _ r2_3 rfl kj (Qa8 [] [ints .u32 ([wv s.a,wv s.b,wv s.c,wv s.d,wv s.e,wv s.f,wv s.g,wv s.h])] [ints .u8 (b),#[.int .i64 m]] 0 kj) kj (isz (n:=8) kj kj)) <| Qaj (ints .u32 ([0,0,0,0,0,0,0,0])) 112 3 rfl kj kj fun g6 W4 l6 e4 r6_4=>Qah g6 _ (ints .u32 ([wv s.a,wv s.b,wv s.c,wv s.d,wv s.e,wv s.f,wv s.g,wv s.h])) 112 r6_4 rfl kj (Qaf 112 _ _ g6 112 _ _ r6_4 rfl kj kj (isz (n:=8) kj kj) (eqsz (n:=8) kj kj) (ints_one _ _)) fun W5 p5 r6_5=>sgN hK5 <| wp_seq_k fun K7 hK7=>QaY 23 [⟨none,[(3,none)]⟩,⟨none,[(29,some 0)]⟩,⟨none,[(3,none)]⟩,⟨none,[(31,some 2)]⟩,⟨none,[(3,none)]⟩,⟨none,[(33,some 4)]⟩,⟨none,[(3,none)]⟩,⟨none,[(35,some 6)]⟩,⟨none,[(3,none)]⟩,⟨none,[(37,some 8)]⟩,⟨none,[(3,none)]⟩,⟨none,[(39,some 10)]⟩,⟨none,[(3,none)]⟩,⟨none,[(41,some 12)]⟩,⟨none,[(3,none)]⟩,⟨none,[(43,some 14)]⟩,⟨none,[(30,some 1)]⟩,⟨none,[(32,some 3)]⟩,⟨none,[(34,some 5)]⟩,⟨none,[(36,some 7)]⟩,⟨none,[(38,some 9)]⟩,⟨none,[(40,some 11)]⟩,⟨none,[(42,some 13)]⟩] kj kj fun F hF=>Qas (.pointer (some ⟨g6,0,none⟩)) kj kj (fun W=>by kernel_rfl) <| Qax (.int .u32 (wv s.a)) kj kj (fun W hR=>(Qak 111 _ g6 0 112 _ (.int .u32 (wv s.a)) _ (Qaa (Qaa r6_5 (Qai _)) hR) rfl kj kj kj)) <| Qas (.pointer (some ⟨g6,1,none⟩)) kj kj (fun W=>by kernel_rfl) <| Qax (.int .u32 (wv s.b)) kj kj (fun W hR=>(Qak 111 _ g6 1 112 _ (.int .u32 (wv s.b)) _ (Qaa (Qaa r6_5 (Qai _)) hR) rfl kj kj kj)) ?_
 refine Qas (.pointer (some ⟨g6,2,none⟩)) kj kj (fun W=>by kernel_rfl) <| Qax (.int .u32 (wv s.c)) kj kj (fun W hR=>(Qak 111 _ g6 2 112 _ (.int .u32 (wv s.c)) _ (Qaa (Qaa r6_5 (Qai _)) hR) rfl kj kj kj)) <| Qas (.pointer (some ⟨g6,3,none⟩)) kj kj (fun W=>by kernel_rfl) <| Qax (.int .u32 (wv s.d)) kj kj (fun W hR=>(Qak 111 _ g6 3 112 _ (.int .u32 (wv s.d)) _ (Qaa (Qaa r6_5 (Qai _)) hR) rfl kj kj kj)) <| Qas (.pointer (some ⟨g6,4,none⟩)) kj kj (fun W=>by kernel_rfl) <| Qax (.int .u32 (wv s.e)) kj kj (fun W hR=>(Qak 111 _ g6 4 112 _ (.int .u32 (wv s.e)) _ (Qaa (Qaa r6_5 (Qai _)) hR) rfl kj kj kj)) <| Qas (.pointer (some ⟨g6,5,none⟩)) kj kj (fun W=>by kernel_rfl) <| Qax (.int .u32 (wv s.f)) kj kj (fun W hR=>(Qak 111 _ g6 5 112 _ (.int .u32 (wv s.f)) _ (Qaa (Qaa r6_5 (Qai _)) hR) rfl kj kj kj)) <| Qas (.pointer (some ⟨g6,6,none⟩)) kj kj (fun W=>by kernel_rfl) <| Qax (.int .u32 (wv s.g)) kj kj (fun W hR=>(Qak 111 _ g6 6 112 _ (.int .u32 (wv s.g)) _ (Qaa (Qaa r6_5 (Qai _)) hR) rfl kj kj kj)) ?_
 refine Qas (.pointer (some ⟨g6,7,none⟩)) kj kj (fun W=>by kernel_rfl) <| Qax (.int .u32 (wv s.h)) kj kj (fun W hR=>(Qak 111 _ g6 7 112 _ (.int .u32 (wv s.h)) _ (Qaa (Qaa r6_5 (Qai _)) hR) rfl kj kj kj)) <| Qas (.int .u32 (wv s.a)) kj kj (fun W=>by kernel_rfl) <| Qas (.int .u32 (wv s.b)) kj kj (fun W=>by kernel_rfl) <| Qas (.int .u32 (wv s.c)) kj kj (fun W=>by kernel_rfl) <| Qas (.int .u32 (wv s.d)) kj kj (fun W=>by kernel_rfl) <| Qas (.int .u32 (wv s.e)) kj kj (fun W=>by kernel_rfl) <| Qas (.int .u32 (wv s.f)) kj kj (fun W=>by kernel_rfl) <| Qas (.int .u32 (wv s.g)) kj kj (fun W=>by kernel_rfl) <| QaT (hF _ kj fun W6 e6=>?_)
 simp only [ups,up,Kn.val,List.take_succ_cons,List.take_zero,List.drop_succ_cons,List.drop_zero,List.nil_append,List.cons_append]
 clear hF
 refine sg 1 kj <| sgN hK7 <| wp_seq_k fun K8 hK8=>sgC fun K9 hK9=>Qad (.agg (ints .u32 ((w64 b).map wv))) 45 rfl kj (Qae 130 _ g4 130 _ _ (Qaa (Puts.row p5 (Qaa r4_3 e4) (Qab r4_3 l6)) e6) rfl kj kj (isz (n:=64) kj ((Qac _ _).trans hl64))) <| sg 1 kj <| sgN hK9 <| wp_block <| QaN (fun (s1:Nat)=>[(0,.pointer (some ⟨g,0,none⟩)),(45,.agg (ints .u32 ((w64 b).map wv))),(46,.int .i64 ((s1:Nat):Int)),(4,.int .u32 (wv ((rnds KK (w64 b) s s1).a))),(5,.int .u32 (wv ((rnds KK (w64 b) s s1).b))),(6,.int .u32 (wv ((rnds KK (w64 b) s s1).c))),(7,.int .u32 (wv ((rnds KK (w64 b) s s1).d))),(8,.int .u32 (wv ((rnds KK (w64 b) s s1).e))),(9,.int .u32 (wv ((rnds KK (w64 b) s s1).f))),(10,.int .u32 (wv ((rnds KK (w64 b) s s1).g))),(11,.int .u32 (wv ((rnds KK (w64 b) s s1).h)))]) (fun (s1:Nat) W=>(s1≤64)∧(Ext W6 W)∧(ExtB g w W)) (fun (s1:Nat)=>64-s1) 0 ⟨kj,kj,kj,kj,kj,kj,kj,kj,kj,kj,kj,trivial⟩ ⟨(Nat.zero_le _),(Rely.Ext.refl W6),(ExtB.ext (ExtB.putsN (ExtB.ext x3 e4) p5 (qT x3.size l6)) e6)⟩ fun s1 X1 V1 hI1=>?_
 obtain ⟨i,hs1⟩:∃ z,z=s1:=⟨_,rfl⟩
 subst hs1
 obtain ⟨hi,kk1,xx1⟩:=hI1
 replace hi:i≤64:=hi
 replace kk1:Ext W6 V1:=kk1
 replace xx1:ExtB g w V1:=xx1
 have e7:=kk1
 refine sgB kj <| wp_seq_k fun K11 hK11=>Qa9 (t:=decide (((i:Nat):Int)<64)) kj (fun c12=>?_) (fun c12=>?_)
 ·skip
  have hlt47:i<64:=by have:=of_decide_eq_true c12; omega
  refine wp_skip <| hK11 _ _ <| wp_seq_k fun K13 hK13=>wp_block <| sgC fun K14 hK14=>sg 1 kj <| Qad (.int .u32 (wv (wget (w64 b) i))) 49 rfl kj (Qa7 130 _ _ .i64 .u32 ((w64 b).map wv) i 64 111 (wv (wget (w64 b) i)) rfl kj kj kj kj kj hl64 (by omega) (Qcq _ _)) <| sg 2 kj <| sgN hK14 <| sgC fun K15 hK15=>?_
  refine sg 1 kj <| Qao (.int .u32 (wv (rr ((rnds KK (w64 b) s i).e) 6))) 82 #[.int .u32 (wv ((rnds KK (w64 b) s i).e)),.int .i64 (-6)] 51 rfl kj kj ((rotC ((rnds KK (w64 b) s i).e) 6 (-6) (by decide) (by decide) (by decide)) _) fun W8 e8=>sg 1 kj <| Qao (.int .u32 (wv (rr ((rnds KK (w64 b) s i).e) 11))) 82 #[.int .u32 (wv ((rnds KK (w64 b) s i).e)),.int .i64 (-11)] 53 rfl kj kj ((rotC ((rnds KK (w64 b) s i).e) 11 (-11) (by decide) (by decide) (by decide)) _) fun W9 e9=>?_
  have x9:=ExtB.ext (ExtB.ext xx1 e8) e9
  refine Qad (.int .u32 (wv (((rr ((rnds KK (w64 b) s i).e) 6))^^^((rr ((rnds KK (w64 b) s i).e) 11))))) 54 rfl kj (Qal kj (congrArg (Value.int .u32) (w_xor _ _))) <| sg 1 kj <| Qao (.int .u32 (wv (rr ((rnds KK (w64 b) s i).e) 25))) 82 #[.int .u32 (wv ((rnds KK (w64 b) s i).e)),.int .i64 (-25)] 56 rfl kj kj ((rotC ((rnds KK (w64 b) s i).e) 25 (-25) (by decide) (by decide) (by decide)) _) fun W10 e10=>?_
  have x10:=ExtB.ext x9 e10
  refine Qad (.int .u32 (wv (((((rr ((rnds KK (w64 b) s i).e) 6))^^^((rr ((rnds KK (w64 b) s i).e) 11))))^^^((rr ((rnds KK (w64 b) s i).e) 25))))) 57 rfl kj (Qal kj (congrArg (Value.int .u32) (w_xor _ _))) <| sg 1 kj <| sgN hK15 <| sgC fun K16 hK16=>sg 1 kj <| Qao (.int .u32 (wv (rr ((rnds KK (w64 b) s i).a) 2))) 82 #[.int .u32 (wv ((rnds KK (w64 b) s i).a)),.int .i64 (-2)] 59 rfl kj kj ((rotC ((rnds KK (w64 b) s i).a) 2 (-2) (by decide) (by decide) (by decide)) _) fun W11 e11=>sg 1 kj <| Qao (.int .u32 (wv (rr ((rnds KK (w64 b) s i).a) 13))) 82 #[.int .u32 (wv ((rnds KK (w64 b) s i).a)),.int .i64 (-13)] 61 rfl kj kj ((rotC ((rnds KK (w64 b) s i).a) 13 (-13) (by decide) (by decide) (by decide)) _) fun W12 e12=>Qad (.int .u32 (wv (((rr ((rnds KK (w64 b) s i).a) 2))^^^((rr ((rnds KK (w64 b) s i).a) 13))))) 62 rfl kj (Qal kj (congrArg (Value.int .u32) (w_xor _ _))) <| sg 1 kj ?_
  refine Qao (.int .u32 (wv (rr ((rnds KK (w64 b) s i).a) 22))) 82 #[.int .u32 (wv ((rnds KK (w64 b) s i).a)),.int .i64 (-22)] 64 rfl kj kj ((rotC ((rnds KK (w64 b) s i).a) 22 (-22) (by decide) (by decide) (by decide)) _) fun W13 e13=>Qad (.int .u32 (wv (((((rr ((rnds KK (w64 b) s i).a) 2))^^^((rr ((rnds KK (w64 b) s i).a) 13))))^^^((rr ((rnds KK (w64 b) s i).a) 22))))) 65 rfl kj (Qal kj (congrArg (Value.int .u32) (w_xor _ _))) <| sg 1 kj <| sgN hK16 <| sgC fun K17 hK17=>sg 2 kj <| Qad (.int .u32 (wv ((((rnds KK (w64 b) s i).h))+((((((rr ((rnds KK (w64 b) s i).e) 6))^^^((rr ((rnds KK (w64 b) s i).e) 11))))^^^((rr ((rnds KK (w64 b) s i).e) 25))))))) 68 rfl kj (Qal kj (congrArg (Value.int .u32) (Qez _ _))) <| sg 2 kj <| Qad (.int .u32 (wv ((((rnds KK (w64 b) s i).e))&&&(((rnds KK (w64 b) s i).f))))) 71 rfl kj (Qal kj (congrArg (Value.int .u32) (QkN _ _))) <| sg 1 kj ?_
  refine Qad (.int .u32 (wv (~~~(((rnds KK (w64 b) s i).e))))) 73 rfl kj (Qal kj (congrArg (Value.int .u32) (Qqn _))) <| sg 1 kj <| Qad (.int .u32 (wv (((~~~(((rnds KK (w64 b) s i).e))))&&&(((rnds KK (w64 b) s i).g))))) 75 rfl kj (Qal kj (congrArg (Value.int .u32) (QkN _ _))) <| Qad (.int .u32 (wv ((((((rnds KK (w64 b) s i).e))&&&(((rnds KK (w64 b) s i).f))))^^^((((~~~(((rnds KK (w64 b) s i).e))))&&&(((rnds KK (w64 b) s i).g))))))) 76 rfl kj (Qal kj (congrArg (Value.int .u32) (w_xor _ _))) <| Qad (.int .u32 (wv ((((((rnds KK (w64 b) s i).h))+((((((rr ((rnds KK (w64 b) s i).e) 6))^^^((rr ((rnds KK (w64 b) s i).e) 11))))^^^((rr ((rnds KK (w64 b) s i).e) 25))))))+(((((((rnds KK (w64 b) s i).e))&&&(((rnds KK (w64 b) s i).f))))^^^((((~~~(((rnds KK (w64 b) s i).e))))&&&(((rnds KK (w64 b) s i).g))))))))) 77 rfl kj (Qal kj (congrArg (Value.int .u32) (Qez _ _))) <| sg 1 kj <| Qad (.pointer (some ⟨1,i,none⟩)) 79 rfl kj (Qa3 _ _ _ .i64 (i) _ 80 52 rfl kj kj kj kj (by omega)) ?_
  have r1_1:=(Qaa hc e1)
  have r1_3:=(Puts.row p3 (Qaa r1_1 e2) (Qab r1_1 l4))
  refine Qad (.int .u64 (nth (Qca) i)) 80 rfl kj (Qak 52 _ 1 i tc _ (.int .u64 (nth (Qca) i)) _ (Qaa (Qaa (Qaa (Qaa (Qaa (Qaa (Qaa (Qaa (Puts.row p5 (Qaa r1_3 e4) (Qab r1_3 l6)) e6) e7) e8) e9) e10) e11) e12) e13) rfl kj (Qar _ _ _ (Nat.lt_of_lt_of_eq (by omega) (show Qca.length=80 from rfl).symm)) kj) <| Qad (.int .u64 (nth Qca i/4294967296)) 81 rfl kj (Qbc .shr _ _ _ _ .u64 .u64 _ _ _ rfl kj kj (Qdf _ _ _ _ _ _ (by decide) (Qpr _))) <| Qad (.int .u32 (wv (wget KK i))) 82 rfl kj (Qal (u:=.int .u32 (IntKind.u32.wrap (nth Qca i/4294967296))) kj (congrArg (Value.int .u32) (QpR i hlt47))) <| Qad (.int .u32 (wv ((((((((rnds KK (w64 b) s i).h))+((((((rr ((rnds KK (w64 b) s i).e) 6))^^^((rr ((rnds KK (w64 b) s i).e) 11))))^^^((rr ((rnds KK (w64 b) s i).e) 25))))))+(((((((rnds KK (w64 b) s i).e))&&&(((rnds KK (w64 b) s i).f))))^^^((((~~~(((rnds KK (w64 b) s i).e))))&&&(((rnds KK (w64 b) s i).g))))))))+((wget KK i))))) 83 rfl kj (Qal kj (congrArg (Value.int .u32) (Qez _ _))) <| sg 1 kj <| Qad (.int .u32 (wv ((((((((((rnds KK (w64 b) s i).h))+((((((rr ((rnds KK (w64 b) s i).e) 6))^^^((rr ((rnds KK (w64 b) s i).e) 11))))^^^((rr ((rnds KK (w64 b) s i).e) 25))))))+(((((((rnds KK (w64 b) s i).e))&&&(((rnds KK (w64 b) s i).f))))^^^((((~~~(((rnds KK (w64 b) s i).e))))&&&(((rnds KK (w64 b) s i).g))))))))+((wget KK i))))+((wget (w64 b) i))))) 85 rfl kj (Qal kj (congrArg (Value.int .u32) (Qez _ _))) <| sg 1 kj <| sgN hK17 <| sgC fun K18 hK18=>sg 3 kj ?_
  refine Qad (.int .u32 (wv ((((rnds KK (w64 b) s i).a))&&&(((rnds KK (w64 b) s i).b))))) 89 rfl kj (Qal kj (congrArg (Value.int .u32) (QkN _ _))) <| sg 2 kj <| Qad (.int .u32 (wv ((((rnds KK (w64 b) s i).a))&&&(((rnds KK (w64 b) s i).c))))) 92 rfl kj (Qal kj (congrArg (Value.int .u32) (QkN _ _))) <| Qad (.int .u32 (wv ((((((rnds KK (w64 b) s i).a))&&&(((rnds KK (w64 b) s i).b))))^^^(((((rnds KK (w64 b) s i).a))&&&(((rnds KK (w64 b) s i).c))))))) 93 rfl kj (Qal kj (congrArg (Value.int .u32) (w_xor _ _))) <| sg 2 kj <| Qad (.int .u32 (wv ((((rnds KK (w64 b) s i).b))&&&(((rnds KK (w64 b) s i).c))))) 96 rfl kj (Qal kj (congrArg (Value.int .u32) (QkN _ _))) <| Qad (.int .u32 (wv ((((((((rnds KK (w64 b) s i).a))&&&(((rnds KK (w64 b) s i).b))))^^^(((((rnds KK (w64 b) s i).a))&&&(((rnds KK (w64 b) s i).c))))))^^^(((((rnds KK (w64 b) s i).b))&&&(((rnds KK (w64 b) s i).c))))))) 97 rfl kj (Qal kj (congrArg (Value.int .u32) (w_xor _ _))) <| Qad (.int .u32 (wv (((((((rr ((rnds KK (w64 b) s i).a) 2))^^^((rr ((rnds KK (w64 b) s i).a) 13))))^^^((rr ((rnds KK (w64 b) s i).a) 22))))+(((((((((rnds KK (w64 b) s i).a))&&&(((rnds KK (w64 b) s i).b))))^^^(((((rnds KK (w64 b) s i).a))&&&(((rnds KK (w64 b) s i).c))))))^^^(((((rnds KK (w64 b) s i).b))&&&(((rnds KK (w64 b) s i).c))))))))) 98 rfl kj (Qal kj (congrArg (Value.int .u32) (Qez _ _))) <| sg 1 kj <| sgN hK18 ?_
  refine Qan <| sg 5 kj <| Qad (.int .u32 (wv ((((rnds KK (w64 b) s i).d))+(((((((((((rnds KK (w64 b) s i).h))+((((((rr ((rnds KK (w64 b) s i).e) 6))^^^((rr ((rnds KK (w64 b) s i).e) 11))))^^^((rr ((rnds KK (w64 b) s i).e) 25))))))+(((((((rnds KK (w64 b) s i).e))&&&(((rnds KK (w64 b) s i).f))))^^^((((~~~(((rnds KK (w64 b) s i).e))))&&&(((rnds KK (w64 b) s i).g))))))))+((wget KK i))))+((wget (w64 b) i))))))) 104 rfl kj (Qal kj (congrArg (Value.int .u32) (Qez _ _))) <| sg 5 kj <| Qad (.int .u32 (wv ((((((((((((rnds KK (w64 b) s i).h))+((((((rr ((rnds KK (w64 b) s i).e) 6))^^^((rr ((rnds KK (w64 b) s i).e) 11))))^^^((rr ((rnds KK (w64 b) s i).e) 25))))))+(((((((rnds KK (w64 b) s i).e))&&&(((rnds KK (w64 b) s i).f))))^^^((((~~~(((rnds KK (w64 b) s i).e))))&&&(((rnds KK (w64 b) s i).g))))))))+((wget KK i))))+((wget (w64 b) i))))+((((((((rr ((rnds KK (w64 b) s i).a) 2))^^^((rr ((rnds KK (w64 b) s i).a) 13))))^^^((rr ((rnds KK (w64 b) s i).a) 22))))+(((((((((rnds KK (w64 b) s i).a))&&&(((rnds KK (w64 b) s i).b))))^^^(((((rnds KK (w64 b) s i).a))&&&(((rnds KK (w64 b) s i).c))))))^^^(((((rnds KK (w64 b) s i).b))&&&(((rnds KK (w64 b) s i).c))))))))))) 110 rfl kj (Qal kj (congrArg (Value.int .u32) (Qez _ _))) <| sg 8 kj <| Qaz <| hK13 _ _ <| Qan <| Qad (.int .i64 ((i+1:Nat):Int)) 111 rfl kj (Qal (u:=.int .i64 (IntKind.i64.wrap (((i:Nat):Int)+1))) kj (congrArg (Value.int .i64) (i64n _ _ (by omega) (by omega)))) ?_
  refine sg 1 kj <| Qaz ?_
  repeat (first | with_reducible refine goX1 ?_ | with_reducible refine goX2 ?_ | with_reducible refine goX3 ?_)
  exact QaG (i+1) ⟨kj,kj,kj,kj,kj,kj,kj,kj,kj,kj,kj,trivial⟩ ⟨(by omega),(Rely.Ext.trans (Rely.Ext.trans (Rely.Ext.trans (Rely.Ext.trans (Rely.Ext.trans (Rely.Ext.trans e7 e8) e9) e10) e11) e12) e13),(ExtB.ext (ExtB.ext (ExtB.ext x10 e11) e12) e13)⟩ (by omega)
 ·skip
  have heq47:i=64:=by have:=of_decide_eq_false c12; omega
  refine wp_exit <| hK8 _ _ <| sgB kj <| wp_block ?_
  obtain ⟨r,hr9⟩:∃ z,z=rnds KK (w64 b) s i:=⟨_,rfl⟩
  have rg_:V1.heap[g]? = some (.cells (cat [ints .u32 (s.l.map wv),ints .u8 (b),#[.int .i64 m]]) 114):=(Qaa (Qaa (Puts.row p5 (Qaa r2_3 e4) (Qab r2_3 l6)) e6) e7)
  refine QaN (fun (s2:Nat)=>[(0,.pointer (some ⟨g,0,none⟩)),(120,.agg (ints .u32 ([wv (rnds KK (w64 b) s i).a,wv (rnds KK (w64 b) s i).b,wv (rnds KK (w64 b) s i).c,wv (rnds KK (w64 b) s i).d,wv (rnds KK (w64 b) s i).e,wv (rnds KK (w64 b) s i).f,wv (rnds KK (w64 b) s i).g,wv (rnds KK (w64 b) s i).h]))),(121,.int .i64 ((s2:Nat):Int))]) (fun (s2:Nat) W=>(s2≤8)∧(W.heap[g]? = some (.cells (cat [ints .u32 ((mixW s.l r.l s2).map wv),ints .u8 (b),#[.int .i64 m]]) 114))∧(Qau [g] V1 W)∧(ExtB g w W)) (fun (s2:Nat)=>8-s2) 0 ⟨kj,kj,kj,trivial⟩ ⟨(Nat.zero_le _),rg_,(Qau.refl [g] V1),xx1⟩ fun s2 X2 V2 hI2=>?_
  obtain ⟨p,hs2⟩:∃ z,z=s2:=⟨_,rfl⟩
  subst hs2
  obtain ⟨hp,q2_2,kk2,xx2⟩:=hI2
  replace hp:p≤8:=hp
  replace q2_2:V2.heap[g]? = some (.cells (cat [ints .u32 ((mixW s.l r.l p).map wv),ints .u8 (b),#[.int .i64 m]]) 114):=q2_2
  replace kk2:Qau [g] V1 V2:=kk2
  replace xx2:ExtB g w V2:=xx2
  have q8:=kk2
  refine sgB kj <| wp_seq_k fun K21 hK21=>Qa9 (t:=decide (((p:Nat):Int)<8)) kj (fun c22=>?_) (fun c22=>?_)
  ·skip
   have hlt122:p<8:=by have:=of_decide_eq_true c22; omega
   refine wp_skip <| hK21 _ _ <| wp_seq_k fun K23 hK23=>wp_block <| sgC fun K24 hK24=>sg 1 kj <| Qad (.int .u32 (wv (wget r.l p))) 124 rfl kj (Qa7 112 _ _ .i64 .u32 ([wv (rnds KK (w64 b) s i).a,wv (rnds KK (w64 b) s i).b,wv (rnds KK (w64 b) s i).c,wv (rnds KK (w64 b) s i).d,wv (rnds KK (w64 b) s i).e,wv (rnds KK (w64 b) s i).f,wv (rnds KK (w64 b) s i).g,wv (rnds KK (w64 b) s i).h]) p 8 111 (wv (wget r.l p)) rfl kj kj kj kj kj rfl (by omega) (by rw [hr9]; exact Qcq (rnds KK (w64 b) s i).l p)) ?_
   refine sg 2 kj <| sgN hK24 <| QaY 11 [⟨none,[(0,none)]⟩,⟨none,[(18,none)]⟩,⟨none,[(125,some 0)]⟩,⟨none,[(127,some 2)]⟩,⟨none,[(128,some 3),(126,some 1)]⟩,⟨none,[(129,some 4)]⟩,⟨none,[(19,none)]⟩,⟨none,[(130,some 5),(131,some 6)]⟩,⟨none,[(125,some 0)]⟩,⟨none,[(133,some 8)]⟩,⟨none,[(134,some 9),(126,some 1)]⟩] kj kj fun F hF=>Qas (.pointer (some ⟨g,0,none⟩)) kj kj (fun W=>by kernel_rfl) <| Qas (.int .i64 ((p:Nat):Int)) kj kj (fun W=>by kernel_rfl) <| Qas (.pointer (some ⟨g,0,none⟩)) kj kj (fun W=>by kernel_rfl) <| Qas (.pointer (some ⟨g,0,none⟩)) kj kj (fun W=>by kernel_rfl) <| Qas (.pointer (some ⟨g,0+p*1,none⟩)) kj kj (fun W=>(Qc6 112 _ _ .i64 p g 0 8 111 1 rfl kj kj kj kj (show p<8 by omega))) <| Qax (.int .u32 (wv (wget s.l p))) kj kj (fun W hR=>(Qak 111 _ g (0+p*1) 114 _ (.int .u32 (wv (wget s.l p))) _ (Qaa (Qaa q2_2 (Qai _)) hR) rfl kj ((QjH [] [ints .u8 (b),#[.int .i64 m]] ((mixW s.l r.l p).map wv) 0 p (0+p*1) kj (by omega) (Nat.lt_of_lt_of_eq (show p<8 by omega) (mix_len s r hp).symm)).trans (congrArg (fun z=>some (Value.int .u32 z)) (QoI s r hlt122))) kj)) <| Qas (.int .u32 (wv (wget r.l p))) kj kj (fun W=>by kernel_rfl) ?_
   refine Qas (.int .u32 (wv (((wget s.l p))+((wget r.l p))))) kj kj (fun W=>(Qal kj (congrArg (Value.int .u32) (Qez _ _)))) <| Qas (.pointer (some ⟨g,0,none⟩)) kj kj (fun W=>by kernel_rfl) <| Qas (.pointer (some ⟨g,0,none⟩)) kj kj (fun W=>by kernel_rfl) <| Qas (.pointer (some ⟨g,0+p*1,none⟩)) kj kj (fun W=>(Qc6 112 _ _ .i64 p g 0 8 111 1 rfl kj kj kj kj (show p<8 by omega))) <| QaT (hF _ kj fun W9 e9=>?_)
   simp only [ups,up,Kn.val,List.take_succ_cons,List.take_zero,List.drop_succ_cons,List.drop_zero,List.nil_append,List.cons_append]
   clear hF
   have x9:=ExtB.ext xx2 e9
   have r2_9:=(Qaa q2_2 e9)
   refine Qah g _ (cat [ints .u32 (((mixW s.l r.l p).map wv).set p (wv (((wget s.l p))+((wget r.l p))))),ints .u8 (b),#[.int .i64 m]]) 114 r2_9 rfl kj (QeW 111 _ _ g (0+p*1) 114 [] [ints .u8 (b),#[.int .i64 m]] ((mixW s.l r.l p).map wv) 0 p _ r2_9 rfl kj kj kj kj (by omega) (Nat.lt_of_lt_of_eq (show p<8 by omega) (mix_len s r hp).symm)) fun W10 p10 r2_10=>?_
   have x10:=ExtB.puts x9 p10
   refine Qaz <| hK23 _ _ <| Qan <| Qad (.int .i64 ((p+1:Nat):Int)) 136 rfl kj (Qal (u:=.int .i64 (IntKind.i64.wrap (((p:Nat):Int)+1))) kj (congrArg (Value.int .i64) (i64n _ _ (by omega) (by omega)))) <| sg 1 kj <| Qaz ?_
   have rh_:W10.heap[g]? = some (.cells (cat [ints .u32 ((mixW s.l r.l (p+1)).map wv),ints .u8 (b),#[.int .i64 m]]) 114):=by have h9:=r2_10; rw [mix_set s r hlt122] at h9; exact h9
   repeat (first | with_reducible refine goX1 ?_ | with_reducible refine goX2 ?_ | with_reducible refine goX3 ?_)
   exact QaG (p+1) ⟨kj,kj,kj,trivial⟩ ⟨(by omega),rh_,(Qau.puts (Qau.step q8 e9) p10 (.inl (by simp))),x10⟩ (by show 8-(p+1)<8-p; omega)
  ·skip
   have heq122:p=8:=by have:=of_decide_eq_false c22; omega
   refine wp_exit ?_
   repeat (first | with_reducible refine goX1 ?_ | with_reducible refine goX2 ?_ | with_reducible refine goX3 ?_)
   exact (show bodyPost _ _ _ .normal _ _ from end0 rfl ⟨rfl,xx2,by have h9:=q2_2; rw [heq122,hr9,heq47] at h9; exact h9⟩)
end Go.Proofs.YtmljnchhgkfemaaDoor.Sha
end
section
namespace Go.Proofs.YtmljnchhgkfemaaDoor.Sha
open Go Go.RowKit
open Rely Auto Own
theorem QeB (s : S8) (t u:List Int):∀ n:Nat,64*n≤t.length→absorb s (t++u) n=absorb s t n
  | 0,_=>rfl
  | n+1,h=>by
    show blk (absorb s (t++u) n) _=blk (absorb s t n) _
    rw [QeB s t u n (by omega)]
    congr 1
    rw [List.drop_append_of_le_length (by omega),List.take_append_of_le_length (by rw [List.length_drop]; omega)]
def HasD (g : Nat) (t:List Int) (W:World):Prop:=∃ b:List Int,b.length=64∧Qag b∧b.take (t.length%64)=t.drop (64*(t.length/64))∧t.length≤1000000000 ∧
  W.heap[g]? = some (.cells (cat [ints .u32 ((absorb S0 t (t.length/64)).l.map wv),ints .u8 b,#[.int .i64 ((t.length:Nat):Int)]]) 114)
theorem HasD.row {g : Nat} {t:List Int} {W W':World} (h:HasD g t W) (e:W'.heap[g]? = W.heap[g]?):HasD g t W':=by
  obtain ⟨b,h1,h2,h3,h4,h5⟩:=h
  exact ⟨b,h1,h2,h3,h4,e.trans h5⟩
theorem HasD.lt {g : Nat} {t:List Int} {W:World} (h:HasD g t W):g<W.heap.size:=by
  obtain ⟨b,h1,h2,h3,h4,h5⟩:=h
  exact Qa4 h5
theorem HasD.ext {g : Nat} {t:List Int} {W W':World} (h:HasD g t W) (e:Ext W W'):HasD g t W':=h.row (e.block g h.lt)
theorem HasD.stable (g : Nat) (t:List Int):QbF Ext (fun _=>HasD g t):=fun _ _ _ hR h=>h.ext hR
def into (b z:List Int) (q n:Nat):List Int:=b.take q++z.take n++b.drop (q+n)
theorem into_len {b z:List Int} {q n:Nat} (hb:b.length=64) (hz:n≤z.length) (hq:q+n≤64):(into b z q n).length=64:=by
  simp only [into,List.length_append,List.length_take,List.length_drop]; omega
theorem Qff {b z:List Int} {q n:Nat} (hb:Qag b) (hz:Qag z):Qag (into b z q n):=fun x hx=>by
  rcases List.mem_append.1 hx with hx | hx
  · rcases List.mem_append.1 hx with hx | hx
    · exact hb x (List.mem_of_mem_take hx)
    · exact hz x (List.mem_of_mem_take hx)
  · exact hb x (List.mem_of_mem_drop hx)
theorem into_take {b z t:List Int} {n:Nat} (hb:b.length=64) (hz:n≤z.length) (hp:b.take (t.length%64)=t.drop (64*(t.length/64))):(into b z (t.length%64) n).take (t.length%64+n)=(t++z.take n).drop (64*(t.length/64)):=by
  have e1:(b.take (t.length%64)++z.take n).length=t.length%64+n:=by
    rw [List.length_append,List.length_take,List.length_take]; omega
  unfold into
  rw [←e1,List.take_left,hp,List.drop_append_of_le_length (by omega)]
theorem QlL {b z t:List Int} {n:Nat} (hb:b.length=64) (hz:n≤z.length) (hp:b.take (t.length%64)=t.drop (64*(t.length/64))) (hn:t.length%64+n<64) :
    (into b z (t.length%64) n).take ((t++z.take n).length%64)=(t++z.take n).drop (64*((t++z.take n).length/64)):=by
  have hl:(t++z.take n).length=t.length+n:=by rw [List.length_append,List.length_take]; omega
  rw [hl,show (t.length+n)%64=t.length%64+n by omega,show (t.length+n)/64=t.length/64 by omega]
  exact into_take hb hz hp
theorem QlK {b z t:List Int} {n:Nat} (hb:b.length=64) (hz:n≤z.length) (hp:b.take (t.length%64)=t.drop (64*(t.length/64))) (hn:t.length%64+n=64) :
    blk (absorb S0 t (t.length/64)) (into b z (t.length%64) n)=absorb S0 (t++z.take n) ((t++z.take n).length/64):=by
  have hl:(t++z.take n).length=t.length+n:=by rw [List.length_append,List.length_take]; omega
  rw [hl,show (t.length+n)/64=t.length/64+1 by omega]
  show _=blk (absorb S0 (t++z.take n) (t.length/64)) _
  rw [QeB S0 t _ _ (by omega)]
  have h1:=into_take hb hz hp
  rw [hn,List.take_of_length_le (by rw [into_len hb hz (by omega)]; omega)] at h1
  rw [h1,List.take_of_length_le (l:=(t++z.take n).drop (64*(t.length/64))) (by rw [List.length_drop,hl]; omega)]
theorem Qkg {z t:List Int} {n:Nat} (hz:n≤z.length) (hn:t.length%64+n<64):absorb S0 (t++z.take n) ((t++z.take n).length/64)=absorb S0 t (t.length/64):=by
  have hl:(t++z.take n).length=t.length+n:=by rw [List.length_append,List.length_take]; omega
  rw [hl,show (t.length+n)/64=t.length/64 by omega,QeB S0 t _ _ (by omega)]
section
variable {ds : List Deferred} {ops : Array Oper} {Q : Exit → Act → World → Prop} {rest : List Oper} {o : Oper} {N : Nat} {L : Env} {W : World}
theorem cat3 (a b c:Array Value):(cat [a,b,c]).toList=a.toList++(b.toList++c.toList):=by
  show (a++(b++c)).toList=_
  simp
theorem Qn4 {st b z:List Int} {u:Value} {q n:Nat} (hst:st.length=8) (hb:b.length=64) (hz:n≤z.length) (hq:q+n≤64) :
    ((cat [ints .u32 st,ints .u8 b,#[u]]).toList.take (8+q)++(z.take n).map (Value.int .u8)++(cat [ints .u32 st,ints .u8 b,#[u]]).toList.drop (8+q+n)).toArray=cat [ints .u32 st,ints .u8 (into b z q n),#[u]]:=by
  apply Array.ext'
  rw [cat3,cat3]
  have e1:(ints .u32 st).toList=st.map (Value.int .u32):=rfl
  have e2:∀ b,(ints .u8 b).toList=b.map (Value.int .u8):=fun _=>rfl
  rw [e1,e2,e2]
  have l1:(st.map (Value.int .u32)).length=8:=by simpa using hst
  have l2:(b.map (Value.int .u8)).length=64:=by simpa using hb
  show (st.map (Value.int .u32)++(b.map (Value.int .u8)++[u])).take (8+q)++(z.take n).map (Value.int .u8)++(st.map (Value.int .u32)++(b.map (Value.int .u8)++[u])).drop (8+q+n)=_
  rw [show 8+q+n=8+(q+n) by omega]
  rw [←l1,List.take_length_add_append,List.drop_length_add_append,List.take_append_of_le_length (by omega)]
  rw [List.drop_append_of_le_length (by omega)]
  unfold into
  simp only [List.map_append,List.map_take,List.map_drop,List.append_assoc]
theorem Qla (x y:Operand) (tx ty:TypeId) (d:Nat) (ho:o.op=.call { callee:=.builtin .copy,args:=#[x,y],argTypes:=#[tx,ty] }) (hu:Tryd.prog.underlying tx=some (.slice 5)) (hd:o.dst=some d) (hgd:Qcd ops o N L=some true)
    {g q n B:Nat} {st b z:List Int} {u v:Value} {T:TypeId} (hst:st.length=8) (hb:b.length=64) (hx:Rely.look (envN N L) x=.slice (some ⟨g,8+q,none⟩) (64-q) (64-q)) (hy:Rely.look (envN N L) y=v) (hr:RdK .u8 B z v W)
    (hg:W.heap[g]? = some (.cells (cat [ints .u32 st,ints .u8 b,#[u]]) T)) (hq:q<64) (hn:n=min z.length (64-q)) (h0:0<z.length)
    (k:∀ W':World,Puts W g W'→W'.heap[g]? = some (.cells (cat [ints .u32 st,ints .u8 (into b z q n),#[u]]) T)→WL Tryd.prog ops Q rest (Qap ds N ((d,.int .i64 ((n:Nat):Int))::L)) W'):WL Tryd.prog ops Q (o::rest) (Qap ds N L) W:=by
  obtain ⟨a,cap,rfl,y2,y3,y4,y5⟩:=hr
  obtain ⟨gz,oz,rfl,z2,z3,z4⟩:=y5.resolve_left (fun e=>by rw [e] at h0; simp at h0)
  have hlen:((z.take n).map (Value.int .u8)).length=n:=by simp; omega
  have hsz:(cat [ints .u32 st,ints .u8 b,#[u]]).size=73:=by
    rw [←Array.length_toList,cat3]; simp [ints]; omega
  have h:=run_copy_row (P:=Tryd.prog) W tx ty o.type 5 g (8+q) (64-q) (64-q) ⟨gz,oz,none⟩ z.length cap (cat [ints .u32 st,ints .u8 b,#[u]]) T ((z.take n).map (Value.int .u8)) hu kj hg (by rw [hlen]; exact hn)
    (Qif (k:=.u8) (ys:=z.take n) fun i hi=>by
      rw [List.length_take] at hi
      rw [z4 i (by omega)]
      simp [nth,show i<n by omega]) (by rw [hlen,hsz]; omega) (Qks .u8 _)
  rw [hlen,Qn4 hst hb (by omega) (by omega)] at h
  refine QbN (.int .i64 ((n:Nat):Int)) _ d hd hgd ?_ (k _ (Qb6 _ _ _) (setRow_heap _ _ _ _ _ _ hg))
  unfold execOp
  simp only [ho,resolve,invoke,builtin,Sem.run_bind,Sem.run_pure,Result.andThen_ok,List.map_toArray,List.map_cons,List.map_nil,hx,hy,h,goInt]
theorem Qkj {P : Program} {ρ:Operand→Value} {k:IntKind} {B:Nat} {ys:List Int} {v:Value} (t:TypeId) (x z:Operand) (l n:Nat) (e:TypeId) (ho:o.op=.slice t x (some z) none none) (hx:ρ x=v) (hv:RdK k B ys v W)
    (hu:P.underlying t=some (.slice e)) (hs:(P.info? e).map (·.size)=some 1) (kz:IntKind) (hz:ρ z=.int kz (l:Int)) (h1:l≤ys.length) (hn:ys.length-l=n) :
    ∃ a c,(execOp ρ o).run P W=.ok (.value (.slice a n c)) W∧RdK k B (ys.drop l) (.slice a n c) W∧(Value.slice a n c).ownBlock=v.ownBlock:=by
  obtain ⟨u,h2,h3,h5⟩:=QgY t x z l e ho hx hv hu hs kz hz h1
  obtain ⟨a,c,rfl,h4⟩:=id h3
  rw [List.length_drop,hn] at h2 h3 h5
  exact ⟨a,c,h2,h3,h5⟩
end
section
variable {ds : List Deferred} {ops : Array Oper} {Q : Exit → Act → World → Prop} {rest : List Oper} {o : Oper} {N : Nat} {L : Env} {W : World}
theorem QgX {P : Program} {k:IntKind} {B:Nat} {ys:List Int} {v:Value} (t:TypeId) (x z:Operand) (l n:Nat) (e:TypeId) (d:Nat) (ho:o.op=.slice t x (some z) none none) (hd:o.dst=some d) (hg:Qcd ops o N L=some true) (hx:Rely.look (envN N L) x=v) (hv:RdK k B ys v W)
    (hu:P.underlying t=some (.slice e)) (hs:(P.info? e).map (·.size)=some 1) (kz:IntKind) (hz:Rely.look (envN N L) z=.int kz (l:Int)) (h1:l≤ys.length) (hn:ys.length-l=n)
    (kk:∀ a c,RdK k B (ys.drop l) (.slice a n c) W→(Value.slice a n c).ownBlock=v.ownBlock→WL P ops Q rest (Qap ds N ((d,.slice a n c)::L)) W):WL P ops Q (o::rest) (Qap ds N L) W:=by
  obtain ⟨a,c,h2,h3,h4⟩:=Qkj (ρ:=Rely.look (envN N L)) t x z l n e ho hx hv hu hs kz hz h1 hn
  exact QbN _ _ d hd hg h2 (kk a c h3 h4)
end
theorem run_storeQ {P : Program} {ρ:Operand→Value} {o:Oper} {w:World} (ty:TypeId) (x y:Operand) (g off:Nat) (t:TypeId) (pre post:List (Array Value)) (u v:Value) (hg:w.heap[g]? = some (.cells (cat (pre++([#[u]]++post))) t))
    (ho:o.op=.store ty x y) (hx:ρ x=.pointer (some ⟨g,off,none⟩)) (hy:ρ y=v) (hi:(P.info? ty).map (·.size)=some 1) (hp:(cat pre).size=off) (h1:v.oneCell'=true) (hcs:v.cells=#[v]) :
    (execOp ρ o).run P w=.ok .skip (w.setRow g (cat (pre++([#[v]]++post)))):=by
  subst hp
  have hs:Nat.blt (cat pre).size (cat (pre++([#[u]]++post))).size=true:=by
    have:(cat pre).size<(cat (pre++([#[u]]++post))).size:=by
      rw [QaF,QaF,qS,qS]
      have e1:(cat [#[u]]).size=1:=rfl
      omega
    simpa using this
  have e:(cat (pre++([#[u]]++post))).setIfInBounds (cat pre).size v=cat (pre++([#[v]]++post)):=by
    rw [QaF,QaF,QaF,QaF]
    have e1:∀ z,cat [#[z]]=#[z]:=fun z=>rfl
    rw [e1,e1,Array.setIfInBounds_append_right (qR _),Nat.sub_self,Array.setIfInBounds_append_left (by simp)]
    rfl
  rw [←e]
  exact QbP ty x y g _ t _ v hg ho hx hy hi hs h1 hcs
end Go.Proofs.YtmljnchhgkfemaaDoor.Sha
end
section
namespace Go.Proofs.YtmljnchhgkfemaaDoor.Sha
open Go Go.RowKit
open Rely Auto Own
theorem addC (g B:Nat) (t ys:List Int) (v:Value) (tc:TypeId) (w:World) (hc:w.heap[1]? = some (.cells (ints .u64 Qca) tc)) (hcg:1≠g) (hB:ys=[]∨v.ownBlock≠some g) (hyb:Qag ys) (hlen:t.length+ys.length≤1000000000) (hd:HasD g t w) (hy:RdK .u8 B ys v w) :
  Calls Tryd.prog 49 #[.pointer (some ⟨g,0,none⟩),v] w (fun e W=>e=.returned (.tuple #[])∧ExtB g w W∧HasD g (t++ys) W):=by
 obtain ⟨a0,c0,rfl,-⟩:=id hy
 refine enter 40 [(0,.pointer (some ⟨g,0,none⟩)),(1,.slice a0 ys.length c0)] Tryd.func49 rfl rfl kj rfl <| wp_seq_k fun K3 hK3=>sgB kj <| cond_false kj <| wp_skip <| hK3 _ _ <| wp_block ?_
 have hyb2:∀ {k:Nat},Qag (ys.drop k):=fun x hx=>hyb x (List.mem_of_mem_drop hx)
 refine QaN (fun (s1:Nat×Option Addr×Nat)=>[(0,.pointer (some ⟨g,0,none⟩)),(1,.slice s1.2.1 (ys.length-s1.1) s1.2.2)]) (fun (s1:Nat×Option Addr×Nat) W=>(s1.1≤ys.length)∧(RdK .u8 B (ys.drop s1.1) (.slice s1.2.1 (ys.length-s1.1) s1.2.2) W)∧(s1.1<ys.length→(Value.slice s1.2.1 (ys.length-s1.1) s1.2.2).ownBlock≠some g)∧(HasD g (t++ys.take s1.1) W)∧(ExtB g w W)) (fun (s1:Nat×Option Addr×Nat)=>ys.length-s1.1) (0,a0,c0) ⟨kj,kj,trivial⟩ ⟨(Nat.zero_le _),hy,(fun h=>hB.resolve_left (fun e=>by rw [e] at h; exact absurd h (Nat.lt_irrefl _))),(by simpa using hd),(ExtB.refl g w)⟩ fun s1 X1 V1 hI1=>?_
 obtain ⟨k,a,c⟩:=s1
 obtain ⟨hk,hr,hnb,hD,xx1⟩:=hI1
 replace hk:k≤ys.length:=hk
 replace hr:RdK .u8 B (ys.drop k) (.slice a (ys.length-k) c) V1:=hr
 replace hnb:k<ys.length→(Value.slice a (ys.length-k) c).ownBlock≠some g:=hnb
 replace hD:HasD g (t++ys.take k) V1:=hD
 replace xx1:ExtB g w V1:=xx1
 refine wp_seq_k fun K5 hK5=>sgB kj <| Qa9 (t:=decide (((ys.length-k:Nat):Int)>0)) kj (fun c7=>?_) (fun c7=>?_)
 ·skip
  have hk2:k<ys.length:=by have:=of_decide_eq_true c7; omega
  obtain ⟨b,hbl,hbb,hbp,hmany,hrow⟩:=hD
  obtain ⟨t1,ht1⟩:∃ z,z=t++ys.take k:=⟨_,rfl⟩
  rw [←ht1] at hbp hmany hrow
  have hlt1:t1.length=t.length+k:=by rw [ht1,List.length_append,List.length_take]; omega
  obtain ⟨m,hm⟩:∃ z,z=t1.length:=⟨_,rfl⟩
  obtain ⟨s,hs⟩:∃ z,z=absorb S0 t1 (t1.length/64):=⟨_,rfl⟩
  obtain ⟨n,hn⟩:∃ z,z=min (ys.drop k).length (64-m%64):=⟨_,rfl⟩
  have hn0:0<n:=by rw [hn,List.length_drop]; omega
  have hn1:n≤ys.length-k:=by rw [hn,List.length_drop]; omega
  have hn2:n≤64-m%64:=by rw [hn]; omega
  rw [←hs,←hm] at hrow
  replace hrow:V1.heap[g]? = some (.cells (cat [ints .u32 ([wv s.a,wv s.b,wv s.c,wv s.d,wv s.e,wv s.f,wv s.g,wv s.h]),ints .u8 (b),#[.int .i64 ((m:Nat):Int)]]) 114):=hrow
  refine wp_skip <| hK5 _ _ <| wp_block <| wp_seq_k fun K8 hK8=>Qbf 10 [⟨none,[(0,none)]⟩,⟨none,[(10,some 0)]⟩,⟨none,[(11,some 1)]⟩,⟨none,[(0,none)]⟩,⟨none,[(13,some 3)]⟩,⟨none,[(14,some 4)]⟩,⟨none,[(15,some 5)]⟩,⟨none,[(16,some 6)]⟩,⟨none,[(12,some 2),(17,some 7)]⟩,⟨none,[(1,none)]⟩] kj kj fun F hF=>QaL (Qaq _) (.pointer (some ⟨g,0,none⟩)) kj kj (fun W=>by kernel_rfl) <| QaL (Qaq _) (.pointer (some ⟨g,0,none⟩)) kj kj (fun W=>by kernel_rfl) <| QaL (Qaq _) (.pointer (some ⟨g,8,none⟩)) kj kj (fun W=>by kernel_rfl) <| QaL (Qaq _) (.pointer (some ⟨g,0,none⟩)) kj kj (fun W=>by kernel_rfl) <| QaL (Qaq _) (.pointer (some ⟨g,0,none⟩)) kj kj (fun W=>by kernel_rfl) ?_
  refine QaL (Qaq _) (.pointer (some ⟨g,72,none⟩)) kj kj (fun W=>by kernel_rfl) <| Qc8 (Qaq _) (.int .i64 ((m:Nat):Int)) kj kj (fun W hR=>(Qak 3 _ g 72 114 _ (.int .i64 ((m:Nat):Int)) _ (Qaa (Qaa hrow (Qai _)) hR) rfl kj (Qa8 [ints .u32 ([wv s.a,wv s.b,wv s.c,wv s.d,wv s.e,wv s.f,wv s.g,wv s.h]),ints .u8 (b)] [#[.int .i64 ((m:Nat):Int)]] [] 72 (by rw [Qam,Qam]; simp only [qS,cat,((Qac _ _).trans hbl)]; rfl) 0 _ rfl) kj)) ?_
  refine QaL (Qaq _) (.int .i64 ((m%64:Nat):Int)) kj kj (fun W=>(Qal (u:=.int .i64 (Int.tmod (((m:Nat):Int)) (64))) kj (congrArg (Value.int .i64) (QcJ _ 64)))) <| QaL (Qaq _) (.slice (some ⟨g,8+(m%64),none⟩) (64-(m%64)) (64-(m%64))) kj kj (fun W=>(Qce 98 _ _ _ (m%64) 64 64 g 8 5 rfl kj kj kj ⟨.i64,by kernel_rfl⟩ rfl (by omega) (by omega) (by omega))) <| QaL (Qaq _) (.slice a (ys.length-k) c) kj kj (fun W=>by kernel_rfl) <| QdN (hF _ fun W2 e2=>?_)
  simp only [List.nil_append,List.cons_append,List.take_succ_cons,List.take_zero,List.drop_succ_cons,List.drop_zero,finE,up]
  clear hF
  have f9_2:=(hr.ext e2)
  have hbl2:(into b (ys.drop k) (m%64) n).length=64:=into_len hbl (by rw [List.length_drop]; omega) (by omega)
  refine Qla (.tmp 18) (.tmp 19) 24 24 20 rfl kj rfl kj (q:=m%64) (n:=n) (b:=b) rfl hbl kj kj f9_2 (Qaa hrow e2) (by omega) hn (by rw [List.length_drop]; omega) fun W3 p3 r2_3=>?_
  refine sg 1 kj <| sgN hK8 <| sgC fun K10 hK10=>sg 2 kj <| QgX 24 (.tmp 21) (.tmp 22) n (ys.length-k-n) 5 23 rfl rfl kj kj (f9_2.putsN p3 (hnb hk2)) kj kj .i64 kj (by rw [List.length_drop]; omega) (by rw [List.length_drop]) fun a2 c2 hr2 hob=>?_
  have hnb2:(Value.slice a2 (ys.length-k-n) c2).ownBlock≠some g:=by rw [hob]; exact hnb hk2
  refine sg 1 kj <| sgN hK10 <| sgC fun K12 hK12=>sg 3 kj <| Qad (.int .i64 ((m:Nat):Int)) 27 rfl kj (Qak 3 _ g 72 114 _ (.int .i64 ((m:Nat):Int)) _ r2_3 rfl kj (Qa8 [ints .u32 ([wv s.a,wv s.b,wv s.c,wv s.d,wv s.e,wv s.f,wv s.g,wv s.h]),ints .u8 (into b (ys.drop k) (m%64) n)] [#[.int .i64 ((m:Nat):Int)]] [] 72 (by rw [Qam,Qam]; simp only [qS,cat,((Qac _ _).trans hbl2)]; rfl) 0 _ rfl) kj) ?_
  refine sg 1 kj <| Qad (.int .i64 ((m+n:Nat):Int)) 29 rfl kj (Qal (u:=.int .i64 (IntKind.i64.wrap (((m:Nat):Int)+((n:Nat):Int)))) kj (congrArg (Value.int .i64) (i64n _ _ (by omega) (by omega)))) <| sg 2 kj <| Qah g _ (cat [ints .u32 ([wv s.a,wv s.b,wv s.c,wv s.d,wv s.e,wv s.f,wv s.g,wv s.h]),ints .u8 (into b (ys.drop k) (m%64) n),#[.int .i64 ((m+n:Nat):Int)]]) 114 r2_3 rfl kj (run_storeQ 3 _ _ g 72 114 [ints .u32 ([wv s.a,wv s.b,wv s.c,wv s.d,wv s.e,wv s.f,wv s.g,wv s.h]),ints .u8 (into b (ys.drop k) (m%64) n)] [] _ (.int .i64 ((m+n:Nat):Int)) r2_3 rfl kj kj kj (by rw [Qam,Qam]; simp only [qS,cat,((Qac _ _).trans hbl2)]; rfl) rfl rfl) fun W4 p4 r2_4=>?_
  have x4:=ExtB.puts (ExtB.puts (ExtB.ext xx1 e2) p3) p4
  refine sgN hK12 <| sgC fun K13 hK13=>sg 3 kj <| Qad (.int .i64 ((m+n:Nat):Int)) 35 rfl kj (Qak 3 _ g 72 114 _ (.int .i64 ((m+n:Nat):Int)) _ r2_4 rfl kj (Qa8 [ints .u32 ([wv s.a,wv s.b,wv s.c,wv s.d,wv s.e,wv s.f,wv s.g,wv s.h]),ints .u8 (into b (ys.drop k) (m%64) n)] [#[.int .i64 ((m+n:Nat):Int)]] [] 72 (by rw [Qam,Qam]; simp only [qS,cat,((Qac _ _).trans hbl2)]; rfl) 0 _ rfl) kj) ?_
  refine Qad (.int .i64 (((m+n)%64:Nat):Int)) 36 rfl kj (Qal (u:=.int .i64 (Int.tmod (((m+n:Nat):Int)) (64))) kj (congrArg (Value.int .i64) (QcJ _ 64))) <| sg 1 kj <| sgN hK13 <| Qa9 (t:=((((m+n)%64:Nat):Int)==0)) kj (fun c14=>?_) (fun c14=>?_)
  ·skip
   have hmod:(m+n)%64=0:=by have:=c14; have h2:=eq_of_beq this; omega
   refine Qan <| sg 1 kj <| QaA (fun v W'=>v=.tuple #[]∧ExtB g W4 W'∧W'.heap[g]? = some (.cells (cat [ints .u32 ((blk s (into b (ys.drop k) (m%64) n)).l.map wv),ints .u8 (into b (ys.drop k) (m%64) n),#[.int .i64 ((m+n:Nat):Int)]]) 114)) 69 #[.pointer (some ⟨g,0,none⟩)] 39 rfl kj kj ((Qqq g s _ hbl2 (Qff hbb hyb2) _ tc _ (Puts.row p4 (Puts.row p3 (Qaa (ExtB.row xx1 hc hcg) e2) hcg) hcg) r2_4).mono fun e w' h=>⟨_,h.1,rfl,h.2⟩) fun v W5 h=>?_
   obtain ⟨rfl,q5,r2_5⟩:=h
   refine Qaz ?_
   have hr3:RdK .u8 B (ys.drop (k+n)) (.slice a2 (ys.length-(k+n)) c2) W5:=by
    have h:=((hr2.putsN p4 hnb2).extN q5 hnb2)
    rw [List.drop_drop,show ys.length-k-n=ys.length-(k+n) by omega] at h
    exact h
   have hlen3:(t1++(ys.drop k).take n).length=m+n:=by rw [List.length_append,List.length_take,List.length_drop]; omega
   have hnb3:(Value.slice a2 (ys.length-(k+n)) c2).ownBlock≠some g:=by rw [show ys.length-(k+n)=ys.length-k-n by omega]; exact hnb2
   have hT:t++ys.take (k+n)=t1++(ys.drop k).take n:=by rw [ht1,List.append_assoc,List.take_add]
   have hzn:n≤(ys.drop k).length:=by rw [List.length_drop]; omega
   have hb0:(into b (ys.drop k) (m%64) n).take ((t++ys.take (k+n)).length%64)=(t++ys.take (k+n)).drop (64*((t++ys.take (k+n)).length/64)):=by
    rw [hT,hlen3,hmod,List.take_zero,List.drop_of_length_le (by omega)]
   have hst:blk s (into b (ys.drop k) (m%64) n)=absorb S0 (t++ys.take (k+n)) ((t++ys.take (k+n)).length/64):=by rw [hT,hs,hm]; exact QlK hbl hzn hbp (by omega)
   have hD2:HasD g (t++ys.take (k+n)) W5:=⟨_,hbl2,Qff hbb hyb2,hb0,by rw [hT,hlen3]; omega,by rw [←hst,hT,hlen3]; exact r2_5⟩
   repeat (first | with_reducible refine goX1 ?_ | with_reducible refine goX2 ?_ | with_reducible refine goX3 ?_)
   exact QaG (k+n,a2,c2) ⟨kj,(congrArg (fun z=>Value.slice a2 z c2) (by omega)),trivial⟩ ⟨(by omega),hr3,(fun _=>hnb3),hD2,(ExtB.trans x4 q5)⟩ (by show ys.length-(k+n)<ys.length-k; omega)
  ·skip
   have hmod:¬ (m+n)%64=0:=by have:=c14; intro h0; rw [h0] at this; exact absurd this (by decide)
   refine wp_skip ?_
   have hr3:RdK .u8 B (ys.drop (k+n)) (.slice a2 (ys.length-(k+n)) c2) W4:=by
    have h:=(hr2.putsN p4 hnb2)
    rw [List.drop_drop,show ys.length-k-n=ys.length-(k+n) by omega] at h
    exact h
   have hlen3:(t1++(ys.drop k).take n).length=m+n:=by rw [List.length_append,List.length_take,List.length_drop]; omega
   have hnb3:(Value.slice a2 (ys.length-(k+n)) c2).ownBlock≠some g:=by rw [show ys.length-(k+n)=ys.length-k-n by omega]; exact hnb2
   have hT:t++ys.take (k+n)=t1++(ys.drop k).take n:=by rw [ht1,List.append_assoc,List.take_add]
   have hzn:n≤(ys.drop k).length:=by rw [List.length_drop]; omega
   have hb0:(into b (ys.drop k) (m%64) n).take ((t++ys.take (k+n)).length%64)=(t++ys.take (k+n)).drop (64*((t++ys.take (k+n)).length/64)):=by
    rw [hT,hm]; exact QlL hbl hzn hbp (by omega)
   have hst:s=absorb S0 (t++ys.take (k+n)) ((t++ys.take (k+n)).length/64):=by rw [hT,hs]; exact (Qkg hzn (by omega)).symm
   have hD2:HasD g (t++ys.take (k+n)) W4:=⟨_,hbl2,Qff hbb hyb2,hb0,by rw [hT,hlen3]; omega,by rw [←hst,hT,hlen3]; exact r2_4⟩
   repeat (first | with_reducible refine goX1 ?_ | with_reducible refine goX2 ?_ | with_reducible refine goX3 ?_)
   exact QaG (k+n,a2,c2) ⟨kj,(congrArg (fun z=>Value.slice a2 z c2) (by omega)),trivial⟩ ⟨(by omega),hr3,(fun _=>hnb3),hD2,x4⟩ (by show ys.length-(k+n)<ys.length-k; omega)
 ·skip
  have hk2:k=ys.length:=by have:=of_decide_eq_false c7; omega
  refine wp_exit ?_
  repeat (first | with_reducible refine goX1 ?_ | with_reducible refine goX2 ?_ | with_reducible refine goX3 ?_)
  exact (show bodyPost _ _ _ .normal _ _ from end0 rfl ⟨rfl,xx1,by rw [hk2,List.take_length] at hD; exact hD⟩)
end Go.Proofs.YtmljnchhgkfemaaDoor.Sha
end
section
namespace Go.Proofs.YtmljnchhgkfemaaDoor.Sha
open Go Go.RowKit
open Rely Auto Own
theorem Qgp (n : Nat):Qag (List.replicate n 0):=fun x hx=>by
  have:=List.eq_of_mem_replicate hx
  subst this; decide
theorem QoT (n : Nat):(64-(n+1+8)%64)%64=QbG n:=by unfold QbG; omega
theorem Qpm (n : Nat) (h:n≤1000000000):IntKind.u64.wrap ((n:Nat):Int)=((n:Nat):Int):=by
  have:∀ z:Int,IntKind.u64.wrap z=z%2^64:=fun _=>rfl
  rw [this]; omega
theorem Qqp (n : Nat) (h:n≤1000000000):IntKind.u64.wrap (((n:Nat):Int)*2^min (3:Int).toNat IntKind.u64.bits)=((8*n:Nat):Int):=by
  have:∀ z:Int,IntKind.u64.wrap z=z%2^64:=fun _=>rfl
  rw [this,show ((2:Int)^min (3:Int).toNat IntKind.u64.bits)=8 from rfl]; omega
theorem Qpo (n : Nat) (h:n≤1000000000):((n:Nat):Int).fdiv (2^min (61:Int).toNat IntKind.u64.bits)=0:=by
  rw [Int.fdiv_eq_ediv_of_nonneg _ (by decide),show ((2:Int)^min (61:Int).toNat IntKind.u64.bits)=2305843009213693952 from rfl]; omega
theorem QoX (m : Nat):IntKind.u8.wrap ((m:Nat):Int)=((m%256:Nat):Int):=by
  have:∀ z:Int,IntKind.u8.wrap z=z%2^8:=fun _=>rfl
  rw [this]; omega
theorem Qqw (n i:Nat):((8*n/256^i:Nat):Int).fdiv (2^min (8:Int).toNat IntKind.u64.bits)=((8*n/256^(i+1):Nat):Int):=by
  rw [Int.fdiv_eq_ediv_of_nonneg _ (by decide),show ((2:Int)^min (8:Int).toNat IntKind.u64.bits)=256 from rfl,Nat.pow_succ,←Nat.div_div_eq_div_mul]; omega
theorem lowlt (n i:Nat) (h:n≤1000000000):8*n/256^(i+1)<18446744073709551616:=Nat.lt_of_le_of_lt (Nat.div_le_self _ _) (by omega)
theorem or0 (m : Nat) (h:m<18446744073709551616):bits .or .u64 ((m:Nat):Int) 0=((m:Nat):Int):=by
  have:=bits_or_u64_nat m 0 h (by decide)
  rw [Nat.or_zero] at this
  exact this
def padL (n i:Nat):List Int:=128::(List.replicate (QbG n) 0++(List.replicate (8-i) 0++(be8 (8*n)).drop (8-i)))
theorem QmO (n : Nat) {i:Nat} (h:i≤8):(padL n i).length=1+QbG n+8:=by
  have:(be8 (8*n)).length=8:=rfl
  simp [padL,this]; omega
theorem QhH (n : Nat):(Qf1 n).length=1+QbG n+8:=by
  have:(be8 (8*n)).length=8:=rfl
  simp [Qf1,this]; omega
theorem Qp3 (n : Nat):(List.replicate (1+QbG n+8) (0:Int)).set 0 128=padL n 0:=by
  rw [show 1+QbG n+8=(QbG n+8)+1 by omega,List.replicate_succ,List.set_cons_zero,←List.replicate_append_replicate]
  rfl
theorem QmN (n i:Nat) (h:i<8):(padL n i).set (1+QbG n+8-1-i) ((8*n/256^i%256:Nat):Int)=padL n (i+1):=by
  unfold padL
  rw [show 1+QbG n+8-1-i=(QbG n+(7-i))+1 by omega,List.set_cons_succ,List.set_append_right _ _ (by simp),qZ,Nat.add_sub_cancel_left]
  congr 2
  match i,h with
  | 0,_=>rfl
  | 1,_=>rfl
  | 2,_=>rfl
  | 3,_=>rfl
  | 4,_=>rfl
  | 5,_=>rfl
  | 6,_=>rfl
  | 7,_=>rfl
theorem QmM (n : Nat) (hn:n≤1000000000) (w:World):Calls Tryd.prog 70 #[.int .i64 ((n:Nat):Int),.int .i64 64,.int .i64 8] w (QcB w (OwnN .u8 5 w.heap.size (Qf1 n))):=by
 have hF:QbG n<64:=by unfold QbG; omega
 refine enter 59 [(0,.int .i64 ((n:Nat):Int)),(1,.int .i64 64),(2,.int .i64 8)] Tryd.func70 rfl rfl kj rfl <| sgB kj <| sgC fun K2 hK2=>sg 2 kj <| Qad (.int .i64 ((n+1:Nat):Int)) 15 rfl kj (Qal (u:=.int .i64 (IntKind.i64.wrap (((n:Nat):Int)+1))) kj (congrArg (Value.int .i64) (i64n _ _ (by omega) (by omega)))) <| sg 1 kj <| Qad (.int .i64 (((n+1)+8:Nat):Int)) 17 rfl kj (Qal (u:=.int .i64 (IntKind.i64.wrap (((n+1:Nat):Int)+8))) kj (congrArg (Value.int .i64) (i64n _ _ (by omega) (by omega)))) <| sg 1 kj <| Qad (.int .i64 ((((n+1)+8)%64:Nat):Int)) 19 rfl kj (Qal (u:=.int .i64 (Int.tmod ((((n+1)+8:Nat):Int)) (64))) kj (congrArg (Value.int .i64) (QcJ _ 64))) <| Qad (.int .i64 ((64-(((n+1)+8)%64):Nat):Int)) 20 rfl kj (Qal (u:=.int .i64 (IntKind.i64.wrap (64-((((n+1)+8)%64:Nat):Int)))) kj (congrArg (Value.int .i64) (i64n _ _ (by omega) (by omega)))) ?_
 refine sg 1 kj <| Qad (.int .i64 (((QbG n:Nat):Int))) 22 rfl kj (Qal (u:=.int .i64 (Int.tmod (((64-(((n+1)+8)%64):Nat):Int)) (64))) kj (congrArg (Value.int .i64) ((QcJ _ 64).trans (congrArg (fun z:Nat=>(z:Int)) (QoT n))))) <| sg 1 kj <| sgN hK2 <| sgC fun K3 hK3=>sg 1 kj <| Qad (.int .i64 ((1+(QbG n):Nat):Int)) 24 rfl kj (Qal (u:=.int .i64 (IntKind.i64.wrap (1+(((QbG n:Nat):Int))))) kj (congrArg (Value.int .i64) (i64n _ _ (by omega) (by omega)))) <| sg 1 kj <| Qad (.int .i64 (((1+(QbG n))+8:Nat):Int)) 26 rfl kj (Qal (u:=.int .i64 (IntKind.i64.wrap (((1+(QbG n):Nat):Int)+8))) kj (congrArg (Value.int .i64) (i64n _ _ (by omega) (by omega)))) <| Qbw (ints .u8 (List.replicate ((1+(QbG n))+8) 0)) 5 ((1+(QbG n))+8) 27 rfl kj (QeF 24 _ _ .i64 .i64 ((1+(QbG n))+8) 5 rfl kj kj kj (.inr kj) (by omega)) fun g4 W1 l4 e1 r4_1=>?_
 have b4:=qT (Rely.Ext.refl w).size l4
 refine sg 1 kj <| sgN hK3 <| sgC fun K5 hK5=>sg 1 kj <| Qad (.pointer (some ⟨g4,0,none⟩)) 29 rfl kj (QbE 24 _ _ .i64 (0) g4 ((1+(QbG n))+8) ((1+(QbG n))+8) 5 rfl kj kj kj kj (by omega)) <| Qah g4 _ (ints .u8 ((List.replicate ((1+(QbG n))+8) 0).set 0 128)) 5 r4_1 rfl kj (Qaw 5 _ _ g4 0 5 _ _ r4_1 rfl kj kj kj (Nat.lt_of_lt_of_eq (by omega) (qZ (n:=((1+(QbG n))+8))).symm)) fun W2 p2 r4_2=>sgN hK5 <| sgC fun K6 hK6=>sg 1 kj <| Qad (.int .u64 (((n:Nat):Int))) 31 rfl kj (Qal (u:=.int .u64 (IntKind.u64.wrap ((n:Nat):Int))) kj (congrArg (Value.int .u64) (Qpm n (by omega)))) ?_
 refine Qad (.int .u64 (((8*n:Nat):Int))) 32 rfl kj (Qbc .shl _ _ _ _ .u64 .u64 _ _ _ rfl kj kj (Qgw _ _ _ _ _ _ (by decide) (Qqp n (by omega)))) <| sg 1 kj <| Qad (.int .u64 (((n:Nat):Int))) 34 rfl kj (Qal (u:=.int .u64 (IntKind.u64.wrap ((n:Nat):Int))) kj (congrArg (Value.int .u64) (Qpm n (by omega)))) <| Qad (.int .u64 (0)) 35 rfl kj (Qbc .shr _ _ _ _ .u64 .u64 _ _ _ rfl kj kj (Qdf _ _ _ _ _ _ (by decide) (Qpo n (by omega)))) <| sg 2 kj <| sgN hK6 <| wp_seq_k fun K7 hK7=>sgB kj <| wp_block <| QaN (fun (s1:Nat)=>[(8,.slice (some ⟨g4,0,none⟩) ((1+(QbG n))+8) ((1+(QbG n))+8)),(9,.int .u64 ((8*n/256^s1:Nat):Int)),(10,.int .u64 0),(36,.int .i64 8),(37,.int .i64 ((s1:Nat):Int))]) (fun (s1:Nat) W=>(s1≤8)∧(W.heap[g4]? = some (.cells (ints .u8 (padL n s1)) 5))∧(Qau [g4] W2 W)∧(Ext w W)) (fun (s1:Nat)=>8-s1) 0 ⟨kj,(congrArg (fun z:Nat=>Value.int .u64 (z:Int)) (Nat.div_one _).symm),kj,kj,kj,trivial⟩ ⟨(Nat.zero_le _),(QaC r4_2 (Qp3 n)),(Qau.refl [g4] W2),(Puts.ext p2 (Ext.tr (Rely.Ext.refl w) e1) b4)⟩ fun s1 X1 V1 hI1=>?_
 obtain ⟨i,hs1⟩:∃ z,z=s1:=⟨_,rfl⟩
 subst hs1
 obtain ⟨hi,q4_1,kk1,xx1⟩:=hI1
 replace hi:i≤8:=hi
 replace q4_1:V1.heap[g4]? = some (.cells (ints .u8 (padL n i)) 5):=q4_1
 replace kk1:Qau [g4] W2 V1:=kk1
 replace xx1:Ext w V1:=xx1
 have q3:=kk1
 refine sgB kj <| wp_seq_k fun K10 hK10=>Qa9 (t:=decide (((i:Nat):Int)<8)) kj (fun c11=>?_) (fun c11=>?_)
 ·skip
  have hlt38:i<8:=by have:=of_decide_eq_true c11; omega
  refine wp_skip <| hK10 _ _ <| wp_seq_k fun K12 hK12=>wp_block <| sgB kj <| sgC fun K14 hK14=>sg 1 kj <| Qad (.int .u8 (((8*n/256^i%256:Nat):Int))) 41 rfl kj (Qal (u:=.int .u8 (IntKind.u8.wrap ((8*n/256^i:Nat):Int))) kj (congrArg (Value.int .u8) (QoX _))) <| sg 1 kj <| sgN hK14 ?_
  refine sgC fun K15 hK15=>sg 3 kj <| Qad (.int .i64 ((((1+(QbG n))+8)-1:Nat):Int)) 45 rfl kj (Qal (u:=.int .i64 (IntKind.i64.wrap ((((1+(QbG n))+8:Nat):Int)-1))) kj (congrArg (Value.int .i64) (i64n _ _ (by omega) (by omega)))) <| sg 1 kj <| Qad (.int .i64 (((((1+(QbG n))+8)-1)-i:Nat):Int)) 47 rfl kj (Qal (u:=.int .i64 (IntKind.i64.wrap (((((1+(QbG n))+8)-1:Nat):Int)-((i:Nat):Int)))) kj (congrArg (Value.int .i64) (i64n _ _ (by omega) (by omega)))) <| sg 1 kj <| Qad (.pointer (some ⟨g4,((((1+(QbG n))+8)-1)-i),none⟩)) 49 rfl kj (QbE 24 _ _ .i64 ((((1+(QbG n))+8)-1)-i) g4 ((1+(QbG n))+8) ((1+(QbG n))+8) 5 rfl kj kj kj kj (by omega)) <| Qah g4 _ (ints .u8 ((padL n i).set ((((1+(QbG n))+8)-1)-i) (((8*n/256^i%256:Nat):Int)))) 5 q4_1 rfl kj (Qaw 5 _ _ g4 ((((1+(QbG n))+8)-1)-i) 5 _ _ q4_1 rfl kj kj kj (Nat.lt_of_lt_of_eq (by omega) (QmO n (by omega)).symm)) fun W4 p4 r4_4=>sgN hK15 <| sgC fun K16 hK16=>?_
  refine sg 1 kj <| Qad (.int .u64 (((8*n/256^(i+1):Nat):Int))) 51 rfl kj (Qbc .shr _ _ _ _ .u64 .u64 _ _ _ rfl kj kj (Qdf _ _ _ _ _ _ (by decide) (Qqw n i))) <| sg 1 kj <| Qad (.int .u64 (0)) 53 rfl kj (Qbc .shl _ _ _ _ .u64 .u64 _ _ _ rfl kj kj (Qgw _ _ _ _ _ _ (by decide) (show IntKind.u64.wrap (0*2^min (56:Int).toNat IntKind.u64.bits)=0 from rfl))) <| Qad (.int .u64 (((8*n/256^(i+1):Nat):Int))) 54 rfl kj (Qal (u:=.int .u64 (bits .or .u64 (((8*n/256^(i+1):Nat):Int)) (0))) kj (congrArg (Value.int .u64) (or0 _ (lowlt n i (by omega))))) <| sg 1 kj <| sgN hK16 <| Qan <| sg 1 kj <| Qad (.int .u64 (0)) 56 rfl kj (Qbc .shr _ _ _ _ .u64 .u64 _ _ _ rfl kj kj (Qdf _ _ _ _ _ _ (by decide) (show Int.fdiv 0 (2^min (8:Int).toNat IntKind.u64.bits)=0 from rfl))) ?_
  refine sg 1 kj <| Qaz <| hK12 _ _ <| Qan <| Qad (.int .i64 ((i+1:Nat):Int)) 57 rfl kj (Qal (u:=.int .i64 (IntKind.i64.wrap (((i:Nat):Int)+1))) kj (congrArg (Value.int .i64) (i64n _ _ (by omega) (by omega)))) <| sg 1 kj <| Qaz ?_
  repeat (first | with_reducible refine goX1 ?_ | with_reducible refine goX2 ?_ | with_reducible refine goX3 ?_)
  exact QaG (i+1) ⟨kj,kj,kj,kj,kj,trivial⟩ ⟨(by omega),(QaC r4_4 (QmN n i hlt38)),(Qau.puts q3 p4 (.inl (by simp))),(Puts.ext p4 xx1 b4)⟩ (by omega)
 ·skip
  have heq38:i=8:=by have:=of_decide_eq_false c11; omega
  have r4_3_17:V1.heap[g4]? = some (.cells (ints .u8 (Qf1 n)) 5):=QaC q4_1 (by rw [heq38]; rfl)
  refine wp_exit <| hK7 _ _ <| sgB kj <| wp_ret ?_
  repeat (first | with_reducible refine goR1 ?_ | with_reducible refine goR2 ?_)
  exact (show bodyPost _ _ _ .ret _ _ from ret1 (.slice (some ⟨g4,0,none⟩) ((1+(QbG n))+8) ((1+(QbG n))+8)) rfl (QaM kj) ⟨_,rfl,xx1,Qdy (QhH n) b4 r4_3_17 (by simp only [maxLen]; omega)⟩)
theorem newC (tq : TypeId) (w:World) (hq:w.heap[0]? = some (.cells (ints .u64 Qbj) tq)):Calls Tryd.prog 48 #[] w (QcB w (fun v W=>∃ g,v=.pointer (some ⟨g,0,none⟩)∧w.heap.size≤g∧HasD g [] W)):=by
 refine enter 21 [] Tryd.func48 rfl rfl kj rfl <| sgB kj <| sgC fun K3 hK3=>sg 1 kj <| Qaj (cat [ints .u32 ([0,0,0,0,0,0,0,0]),ints .u8 (List.replicate 64 0),#[.int .i64 0]]) 114 5 rfl kj kj fun g4 W1 l4 e1 r4_1=>?_
 have b4:=qT (Rely.Ext.refl w).size l4
 refine sg 1 kj <| sgN hK3 <| wp_seq_k fun K5 hK5=>sgC fun K6 hK6=>Qad (.agg (ints .u64 (Qbj))) 6 rfl kj (Qae 115 _ 0 tq _ _ (Qaa hq e1) rfl kj kj (isz (n:=8) kj ((Qac _ _).trans (show Qbj.length=8 from rfl)))) <| sg 1 kj <| sgN hK6 <| wp_block ?_
 have rz_:W1.heap[g4]? = some (.cells (cat [ints .u32 (fill (S0.l.map wv) 8 0),ints .u8 (List.replicate 64 0),#[.int .i64 0]]) 114):=r4_1
 refine QaN (fun (s1:Nat)=>[(1,.pointer (some ⟨g4,0,none⟩)),(4,.agg (cat [ints .u32 ([0,0,0,0,0,0,0,0]),ints .u8 (List.replicate 64 0),#[.int .i64 0]])),(5,.pointer (some ⟨g4,0,none⟩)),(6,.agg (ints .u64 (Qbj))),(7,.int .i64 ((s1:Nat):Int))]) (fun (s1:Nat) W=>(s1≤8)∧(W.heap[g4]? = some (.cells (cat [ints .u32 (fill (S0.l.map wv) 8 s1),ints .u8 (List.replicate 64 0),#[.int .i64 0]]) 114))∧(Qau [g4] W1 W)∧(Ext w W)) (fun (s1:Nat)=>8-s1) 0 ⟨kj,kj,kj,kj,kj,trivial⟩ ⟨(Nat.zero_le _),rz_,(Qau.refl [g4] W1),(Ext.tr (Rely.Ext.refl w) e1)⟩ fun s1 X1 V1 hI1=>?_
 obtain ⟨p,hs1⟩:∃ z,z=s1:=⟨_,rfl⟩
 subst hs1
 obtain ⟨hp,q4_1,kk1,xx1⟩:=hI1
 replace hp:p≤8:=hp
 replace q4_1:V1.heap[g4]? = some (.cells (cat [ints .u32 (fill (S0.l.map wv) 8 p),ints .u8 (List.replicate 64 0),#[.int .i64 0]]) 114):=q4_1
 replace kk1:Qau [g4] W1 V1:=kk1
 replace xx1:Ext w V1:=xx1
 have q2:=kk1
 refine sgB kj <| wp_seq_k fun K8 hK8=>Qa9 (t:=decide (((p:Nat):Int)<8)) kj (fun c9=>?_) (fun c9=>?_)
 ·skip
  have hlt8:p<8:=by have:=of_decide_eq_true c9; omega
  refine wp_skip <| hK8 _ _ <| wp_seq_k fun K10 hK10=>wp_block <| sgC fun K11 hK11=>sg 1 kj <| Qad (.int .u64 (nth Qbj p)) 10 rfl kj (Qa7 115 _ _ .i64 .u64 (Qbj) p 8 52 (nth Qbj p) rfl kj kj kj kj kj (show Qbj.length=8 from rfl) (by omega) rfl) <| sg 2 kj <| sgN hK11 <| Qan ?_
  refine sg 3 kj <| Qad (.int .u64 (nth Qbj p/4294967296)) 14 rfl kj (Qbc .shr _ _ _ _ .u64 .u64 _ _ _ rfl kj kj (Qdf _ _ _ _ _ _ (by decide) (Qpr _))) <| Qad (.int .u32 (nth (S0.l.map wv) p)) 15 rfl kj (Qal (u:=.int .u32 (IntKind.u32.wrap (nth Qbj p/4294967296))) kj (congrArg (Value.int .u32) ((by decide +kernel:∀ i:Fin 8,IntKind.u32.wrap (nth Qbj i.val/4294967296)=nth (S0.l.map wv) i.val) ⟨p,hlt8⟩))) <| sg 2 kj <| Qad (.pointer (some ⟨g4,0+p*1,none⟩)) 18 rfl kj (Qc6 112 _ _ .i64 p g4 0 8 111 1 rfl kj kj kj kj (show p<8 by omega)) <| Qah g4 _ (cat [ints .u32 ((fill (S0.l.map wv) 8 p).set p (nth (S0.l.map wv) p)),ints .u8 (List.replicate 64 0),#[.int .i64 0]]) 114 q4_1 rfl kj (QeW 111 _ _ g4 (0+p*1) 114 [] [ints .u8 (List.replicate 64 0),#[.int .i64 0]] (fill (S0.l.map wv) 8 p) 0 p _ q4_1 rfl kj kj kj kj (by omega) (Nat.lt_of_lt_of_eq (show p<8 by omega) (QbH (n:=8) rfl hp).symm)) fun W3 p3 r4_3=>Qaz <| hK10 _ _ <| Qan <| Qad (.int .i64 ((p+1:Nat):Int)) 19 rfl kj (Qal (u:=.int .i64 (IntKind.i64.wrap (((p:Nat):Int)+1))) kj (congrArg (Value.int .i64) (i64n _ _ (by omega) (by omega)))) ?_
  refine sg 1 kj <| Qaz ?_
  have rg_:W3.heap[g4]? = some (.cells (cat [ints .u32 (fill (S0.l.map wv) 8 (p+1)),ints .u8 (List.replicate 64 0),#[.int .i64 0]]) 114):=by have h9:=r4_3; rw [Qde (n:=8) rfl hlt8] at h9; exact h9
  repeat (first | with_reducible refine goX1 ?_ | with_reducible refine goX2 ?_ | with_reducible refine goX3 ?_)
  exact QaG (p+1) ⟨kj,kj,kj,kj,kj,trivial⟩ ⟨(by omega),rg_,(Qau.puts q2 p3 (.inl (by simp))),(Puts.ext p3 xx1 b4)⟩ (by show 8-(p+1)<8-p; omega)
 ·skip
  have heq8:p=8:=by have:=of_decide_eq_false c9; omega
  have rh_:V1.heap[g4]? = some (.cells (cat [ints .u32 (S0.l.map wv),ints .u8 (List.replicate 64 0),#[.int .i64 0]]) 114):=by have h9:=q4_1; rw [heq8,Qd8 (show (S0.l.map wv).length=8 from rfl)] at h9; exact h9
  refine wp_exit <| hK5 _ _ <| sgB kj <| wp_ret ?_
  repeat (first | with_reducible refine goR1 ?_ | with_reducible refine goR2 ?_)
  exact (show bodyPost _ _ _ .ret _ _ from ret1 (.pointer (some ⟨g4,0,none⟩)) rfl (QaM kj) ⟨_,rfl,xx1,_,rfl,b4,List.replicate 64 0,qZ,Qgp 64,rfl,Nat.zero_le _,rh_⟩)
end Go.Proofs.YtmljnchhgkfemaaDoor.Sha
end
section
namespace Go.Proofs.YtmljnchhgkfemaaDoor.Sha
open Go Go.RowKit
open Rely Auto Own
theorem Qpj (x : Int):IntKind.u8.wrap x=x%256:=by
  have:IntKind.u8.wrap x=x%2^8:=rfl
  rw [this]; rfl
theorem Qpl (x : Wd) (n d:Nat) (h:2^n=d):IntKind.u8.wrap (wv (x>>>n))=((x.toNat/d%256:Nat):Int):=by
  subst h
  rw [Qpj]; unfold wv; rw [BitVec.toNat_ushiftRight,Nat.shiftRight_eq_div_pow]; omega
theorem out_byte (s : S8) {a b:Nat} (ha:a<8) (hb:b<4):IntKind.u8.wrap (wv (wget s.l a>>>(24-8*b)))=nth s.out (4*a+b):=by
  rcases (show b=0∨b=1∨b=2∨b=3 by omega) with rfl | rfl | rfl | rfl <;> rcases (show a=0∨a=1∨a=2∨a=3∨a=4∨a=5∨a=6∨a=7 by omega) with rfl | rfl | rfl | rfl | rfl | rfl | rfl | rfl <;> exact Qpl _ _ _ (by decide)
theorem Qi9 (n : Nat):Qag (Qf1 n):=fun x hx=>by
  unfold Qf1 at hx
  rcases List.mem_cons.1 hx with h | h
  · omega
  · rcases List.mem_append.1 h with h | h
    · exact Qgp _ x h
    · simp only [be8,List.mem_cons,List.not_mem_nil,or_false] at h
      rcases h with h | h | h | h | h | h | h | h <;> omega
set_option maxHeartbeats 8000000 in
theorem sumC (g : Nat) (t:List Int) (tc:TypeId) (w:World) (hc:w.heap[1]? = some (.cells (ints .u64 Qca) tc)) (hlen:t.length≤900000000) (hd:HasD g t w):Calls Tryd.prog 50 #[.pointer (some ⟨g,0,none⟩)] w (Ret w (.agg (ints .u8 (dig t)))):=by
 obtain ⟨b,hbl,hbb,hbp,hmany,hrow⟩:=hd
 obtain ⟨s,hs⟩:∃ z,z=absorb S0 t (t.length/64):=⟨_,rfl⟩
 rw [←hs] at hrow
 replace hrow:w.heap[g]? = some (.cells (cat [ints .u32 ([wv s.a,wv s.b,wv s.c,wv s.d,wv s.e,wv s.f,wv s.g,wv s.h]),ints .u8 (b),#[.int .i64 ((t.length:Nat):Int)]]) 114):=hrow
 refine enter 43 [(0,.pointer (some ⟨g,0,none⟩))] Tryd.func50 rfl rfl kj rfl <| sgC fun K3 hK3=>Qaj (ints .u8 (List.replicate 32 0)) 61 2 rfl kj kj fun g4 W1 l4 e1 r4_1=>?_
 have x1:=Ext.tr (Rely.Ext.refl w) e1
 refine sgN hK3 <| sgC fun K5 hK5=>Qaj (ints .u8 (List.replicate 32 0)) 61 3 rfl kj kj fun g6 W2 l6 e2 r6_2=>?_
 have x2:=Ext.tr x1 e2
 refine sgN hK5 <| wp_seq_k fun K7 hK7=>sgB kj <| cond_false kj <| wp_skip <| hK7 _ _ <| sgC fun K9 hK9=>sg 2 kj ?_
 have r2_2:=(Qaa (Qaa hrow e1) e2)
 refine Qad (.agg (cat [ints .u32 ([wv s.a,wv s.b,wv s.c,wv s.d,wv s.e,wv s.f,wv s.g,wv s.h]),ints .u8 (b),#[.int .i64 ((t.length:Nat):Int)]])) 13 rfl kj (Qae 114 _ g 114 _ _ r2_2 rfl kj kj (isz (n:=73) kj (by rw [Qam,Qam,Qam]; simp only [qS,cat,((Qac _ _).trans hbl)]; rfl))) ?_
 refine Qaj (cat [ints .u32 ([0,0,0,0,0,0,0,0]),ints .u8 (List.replicate 64 0),#[.int .i64 0]]) 114 4 rfl kj kj fun g10 W3 l10 e3 r10_3=>?_
 have b10:=qT x2.size l10
 refine Qah g10 _ (cat [ints .u32 ([wv s.a,wv s.b,wv s.c,wv s.d,wv s.e,wv s.f,wv s.g,wv s.h]),ints .u8 (b),#[.int .i64 ((t.length:Nat):Int)]]) 114 r10_3 rfl kj (Qaf 114 _ _ g10 114 _ _ r10_3 rfl kj kj (isz (n:=73) kj (by rw [Qam,Qam,Qam]; simp only [qS,cat,((Qac _ _).trans hbl)]; rfl)) (eqsz (n:=73) (by rw [Qam,Qam,Qam]; simp only [qS,cat,((Qac _ _).trans (qZ (n:=64)))]; rfl) (by rw [Qam,Qam,Qam]; simp only [qS,cat,((Qac _ _).trans hbl)]; rfl)) (Qe8 _ (by intro a ha; simp only [List.mem_cons,List.not_mem_nil,or_false] at ha; rcases ha with rfl | rfl | rfl; exact (ints_one _ _); exact (ints_one _ _); exact (QmU _ rfl)))) fun W4 p4 r10_4=>?_
 refine sgN hK9 <| sgC fun K11 hK11=>sg 3 kj <| Qad (.int .i64 ((t.length:Nat):Int)) 17 rfl kj (Qak 3 _ g 72 114 _ (.int .i64 ((t.length:Nat):Int)) _ (Puts.row p4 (Qaa r2_2 e3) (Qab r2_2 l10)) rfl kj (Qa8 [ints .u32 ([wv s.a,wv s.b,wv s.c,wv s.d,wv s.e,wv s.f,wv s.g,wv s.h]),ints .u8 (b)] [#[.int .i64 ((t.length:Nat):Int)]] [] 72 (by rw [Qam,Qam]; simp only [qS,cat,((Qac _ _).trans hbl)]; rfl) 0 _ rfl) kj) ?_
 refine QaA (fun v W'=>(OwnN .u8 5 W4.heap.size (Qf1 t.length)) v W'∧Ext W4 W') 70 #[.int .i64 ((t.length:Nat):Int),.int .i64 64,.int .i64 8] 18 rfl kj kj ((QmM t.length (by omega) _).mono (by rintro e w' ⟨v,rfl,e1,hv⟩; exact ⟨v,rfl,hv,e1⟩)) fun vv12 W5 hh12=>?_
 obtain ⟨hv12,e5⟩:=hh12
 have r1_2:=(Qaa (Qaa hc e1) e2)
 have hd4:HasD g10 t W5:=⟨b,hbl,hbb,hbp,hmany,by rw [←hs]; exact (Qaa r10_4 e5)⟩
 have hp4:=hv12
 have hfl:QbG t.length<64:=by unfold QbG; omega
 have hpl:t.length+(Qf1 t.length).length≤1000000000:=by rw [QhH]; omega
 refine QaA (fun v W'=>v=.tuple #[]∧ExtB g10 W5 W'∧HasD g10 (t++Qf1 t.length) W') 49 #[.pointer (some ⟨g10,0,none⟩),vv12] 19 rfl kj kj ((addC g10 _ t (Qf1 t.length) _ tc _ (Qaa (Puts.row p4 (Qaa r1_2 e3) (Qab r1_2 l10)) e5) (Qab r1_2 l10) (.inr (hp4.nb (Qa4 r10_4))) (Qi9 _) hpl hd4 (OwnN.rd hp4)).mono fun e w' h=>⟨_,h.1,rfl,h.2⟩) fun v W6 h=>?_
 obtain ⟨rfl,q6,hD5⟩:=h
 obtain ⟨b5,hbl5,hbb5,-,-,hrow5⟩:=hD5
 obtain ⟨s5,hs5⟩:∃ z,z=absorb S0 (padT t) ((padT t).length/64):=⟨_,rfl⟩
 rw [show t++Qf1 t.length=padT t from rfl,←hs5] at hrow5
 replace hrow5:W6.heap[g10]? = some (.cells (cat [ints .u32 ([wv s5.a,wv s5.b,wv s5.c,wv s5.d,wv s5.e,wv s5.f,wv s5.g,wv s5.h]),ints .u8 (b5),#[.int .i64 (((padT t).length:Nat):Int)]]) 114):=hrow5
 refine sgN hK11 <| wp_seq_k fun K13 hK13=>sgC fun K14 hK14=>sg 1 kj <| Qad (.agg (ints .u32 ([wv s5.a,wv s5.b,wv s5.c,wv s5.d,wv s5.e,wv s5.f,wv s5.g,wv s5.h]))) 21 rfl kj (Qat 112 _ g10 0 114 _ _ _ hrow5 rfl kj (Qa8 [] [ints .u32 ([wv s5.a,wv s5.b,wv s5.c,wv s5.d,wv s5.e,wv s5.f,wv s5.g,wv s5.h])] [ints .u8 (b5),#[.int .i64 (((padT t).length:Nat):Int)]] 0 kj) kj (isz (n:=8) kj kj)) <| sg 1 kj <| sgN hK14 <| wp_block <| QaN (fun (s1:Nat)=>[(2,.pointer (some ⟨g4,0,none⟩)),(3,.pointer (some ⟨g6,0,none⟩)),(21,.agg (ints .u32 ([wv s5.a,wv s5.b,wv s5.c,wv s5.d,wv s5.e,wv s5.f,wv s5.g,wv s5.h]))),(22,.int .i64 ((s1:Nat):Int))]) (fun (s1:Nat) W=>(s1≤8)∧(W.heap[g6]? = some (.cells (ints .u8 (fill s5.out 32 (4*s1))) 61))∧(Qau [g6] W6 W)∧(Ext w W)) (fun (s1:Nat)=>8-s1) 0 ⟨kj,kj,kj,kj,trivial⟩ ⟨(Nat.zero_le _),(QaC (ExtB.row q6 (Qaa (Puts.row p4 (Qaa r6_2 e3) (Qab r6_2 l10)) e5) (Qab r6_2 l10)) (Qea s5.out 32).symm),(Qau.refl [g6] W6),(ExtB.up (Ext.tr (Puts.ext p4 (Ext.tr x2 e3) b10) e5) q6 b10)⟩ fun s1 X1 V1 hI1=>?_
 obtain ⟨i,hs1⟩:∃ z,z=s1:=⟨_,rfl⟩
 subst hs1
 obtain ⟨hi,q6_1,kk1,xx1⟩:=hI1
 replace hi:i≤8:=hi
 replace q6_1:V1.heap[g6]? = some (.cells (ints .u8 (fill s5.out 32 (4*i))) 61):=q6_1
 replace kk1:Qau [g6] W6 V1:=kk1
 replace xx1:Ext w V1:=xx1
 have q7:=kk1
 refine sgB kj <| wp_seq_k fun K16 hK16=>Qa9 (t:=decide (((i:Nat):Int)<8)) kj (fun c17=>?_) (fun c17=>?_)
 ·skip
  have hlt23:i<8:=by have:=of_decide_eq_true c17; omega
  refine wp_skip <| hK16 _ _ <| wp_seq_k fun K18 hK18=>wp_block <| sgC fun K19 hK19=>sg 1 kj <| Qad (.int .u32 (wv (wget s5.l i))) 25 rfl kj (Qa7 112 _ _ .i64 .u32 ([wv s5.a,wv s5.b,wv s5.c,wv s5.d,wv s5.e,wv s5.f,wv s5.g,wv s5.h]) i 8 111 (wv (wget s5.l i)) rfl kj kj kj kj kj rfl (by omega) (show nth (s5.l.map wv) i=_ from Qcq _ _)) <| sg 2 kj <| sgN hK19 <| sgB kj ?_
  refine wp_block <| QaN (fun (s2:Nat)=>[(2,.pointer (some ⟨g4,0,none⟩)),(3,.pointer (some ⟨g6,0,none⟩)),(5,.int .i64 ((i:Nat):Int)),(6,.int .u32 (wv (wget s5.l i))),(21,.agg (ints .u32 ([wv s5.a,wv s5.b,wv s5.c,wv s5.d,wv s5.e,wv s5.f,wv s5.g,wv s5.h]))),(22,.int .i64 ((i:Nat):Int)),(26,.int .i64 ((s2:Nat):Int))]) (fun (s2:Nat) W=>(s2≤4)∧(W.heap[g6]? = some (.cells (ints .u8 (fill s5.out 32 (4*i+s2))) 61))∧(Qau [g6] V1 W)∧(Ext w W)) (fun (s2:Nat)=>4-s2) 0 ⟨kj,kj,kj,kj,kj,kj,kj,trivial⟩ ⟨(Nat.zero_le _),(QaC q6_1 (show _=fill s5.out 32 (4*i+0) from rfl)),(Qau.refl [g6] V1),xx1⟩ fun s2 X2 V2 hI2=>?_
  obtain ⟨j,hs2⟩:∃ z,z=s2:=⟨_,rfl⟩
  subst hs2
  obtain ⟨hj,q6_2,kk2,xx2⟩:=hI2
  replace hj:j≤4:=hj
  replace q6_2:V2.heap[g6]? = some (.cells (ints .u8 (fill s5.out 32 (4*i+j))) 61):=q6_2
  replace kk2:Qau [g6] V1 V2:=kk2
  replace xx2:Ext w V2:=xx2
  have q8:=kk2
  refine sgB kj <| wp_seq_k fun K22 hK22=>Qa9 (t:=decide (((j:Nat):Int)<4)) kj (fun c23=>?_) (fun c23=>?_)
  ·skip
   have hlt27:j<4:=by have:=of_decide_eq_true c23; omega
   refine wp_skip <| hK22 _ _ <| wp_seq_k fun K24 hK24=>wp_block <| sgB kj <| Qan <| sg 1 kj <| Qad (.int .i64 ((4*i:Nat):Int)) 30 rfl kj (Qal (u:=.int .i64 (IntKind.i64.wrap (4*((i:Nat):Int)))) kj (congrArg (Value.int .i64) (i64n _ _ (by omega) (by omega)))) <| sg 1 kj <| Qad (.int .i64 (((4*i)+j:Nat):Int)) 32 rfl kj (Qal (u:=.int .i64 (IntKind.i64.wrap (((4*i:Nat):Int)+((j:Nat):Int)))) kj (congrArg (Value.int .i64) (i64n _ _ (by omega) (by omega)))) ?_
   refine sg 2 kj <| Qad (.int .i64 ((8*j:Nat):Int)) 35 rfl kj (Qal (u:=.int .i64 (IntKind.i64.wrap (8*((j:Nat):Int)))) kj (congrArg (Value.int .i64) (i64n _ _ (by omega) (by omega)))) <| Qad (.int .i64 (((24-8*j:Nat):Int))) 36 rfl kj (Qal (u:=.int .i64 (IntKind.i64.wrap (24-((8*j:Nat):Int)))) kj (congrArg (Value.int .i64) (i64n _ _ (by omega) (by omega)))) <| Qad (.int .u32 (wv (wget s5.l i>>>(24-8*j)))) 37 rfl kj (Qbc .shr _ _ _ _ .u32 .i64 _ _ _ rfl kj kj (Qdf _ _ _ _ _ _ (by omega) (QjZ _ _ (24-8*j) rfl (by omega)))) <| Qad (.int .u8 (nth s5.out (4*i+j))) 38 rfl kj (Qal (u:=.int .u8 (IntKind.u8.wrap (wv (wget s5.l i>>>(24-8*j))))) kj (congrArg (Value.int .u8) (out_byte s5 hlt23 hlt27))) <| Qad (.pointer (some ⟨g6,(4*i)+j,none⟩)) 39 rfl kj (Qa3 _ _ _ .i64 ((4*i)+j) _ 32 5 rfl kj kj kj kj (by omega)) <| Qah g6 _ (ints .u8 ((fill s5.out 32 (4*i+j)).set ((4*i)+j) (nth s5.out (4*i+j)))) 61 q6_2 rfl kj (Qaw 5 _ _ g6 ((4*i)+j) 61 _ _ q6_2 rfl kj kj kj (Nat.lt_of_lt_of_eq (by omega) (QbH (show s5.out.length=32 from rfl) (by omega)).symm)) fun W9 p9 r6_9=>Qaz <| hK24 _ _ <| Qan ?_
   refine Qad (.int .i64 ((j+1:Nat):Int)) 40 rfl kj (Qal (u:=.int .i64 (IntKind.i64.wrap (((j:Nat):Int)+1))) kj (congrArg (Value.int .i64) (i64n _ _ (by omega) (by omega)))) <| sg 1 kj <| Qaz ?_
   repeat (first | with_reducible refine goX1 ?_ | with_reducible refine goX2 ?_ | with_reducible refine goX3 ?_)
   exact QaG (j+1) ⟨kj,kj,kj,kj,kj,kj,kj,trivial⟩ ⟨(by omega),(QaC r6_9 (Qde (show s5.out.length=32 from rfl) (by omega))),(Qau.puts q8 p9 (.inl (by simp))),(Puts.ext p9 xx2 (qT x1.size l6))⟩ (by show 4-(j+1)<4-j; omega)
  ·skip
   have heq27:j=4:=by have:=of_decide_eq_false c23; omega
   have r6_8_26:V2.heap[g6]? = some (.cells (ints .u8 (fill s5.out 32 (4*(i+1)))) 61):=QaC q6_2 (by rw [heq27]; rfl)
   refine wp_exit <| hK18 _ _ <| Qan <| Qad (.int .i64 ((i+1:Nat):Int)) 41 rfl kj (Qal (u:=.int .i64 (IntKind.i64.wrap (((i:Nat):Int)+1))) kj (congrArg (Value.int .i64) (i64n _ _ (by omega) (by omega)))) <| sg 1 kj <| Qaz ?_
   repeat (first | with_reducible refine goX1 ?_ | with_reducible refine goX2 ?_ | with_reducible refine goX3 ?_)
   exact QaG (i+1) ⟨kj,kj,kj,kj,trivial⟩ ⟨(by omega),r6_8_26,(Qau.keeps q7 q8 (Qhm (.inl (by simp)) Qj5)),xx2⟩ (by show 8-(i+1)<8-i; omega)
 ·skip
  have heq23:i=8:=by have:=of_decide_eq_false c17; omega
  have r6_7_27:V1.heap[g6]? = some (.cells (ints .u8 (s5.out)) 61):=QaC q6_1 (by rw [heq23]; exact Qd8 (show s5.out.length=32 from rfl))
  refine wp_exit <| hK13 _ _ <| sgC fun K28 hK28=>Qad (.agg (ints .u8 (s5.out))) 42 rfl kj (Qae 61 _ g6 61 _ _ r6_7_27 rfl kj kj (isz (n:=32) kj ((Qac _ _).trans (show s5.out.length=32 from rfl)))) ?_
  have r4_2:=(Qaa r4_1 e2)
  have r4_7:=(Qau.row q7 (ExtB.row q6 (Qaa (Puts.row p4 (Qaa r4_2 e3) (Qab r4_2 l10)) e5) (Qab r4_2 l10)) (Qba (Qab r4_1 l6) Qbm))
  refine Qah g4 _ (ints .u8 (s5.out)) 61 r4_7 rfl kj (Qaf 61 _ _ g4 61 _ _ r4_7 rfl kj kj (isz (n:=32) kj ((Qac _ _).trans (show s5.out.length=32 from rfl))) (eqsz (n:=32) ((Qac _ _).trans (qZ (n:=32))) ((Qac _ _).trans (show s5.out.length=32 from rfl))) (ints_one _ _)) fun W8 p8 r4_8=>sgN hK28 <| wp_ret ?_
  repeat (first | with_reducible refine goR1 ?_ | with_reducible refine goR2 ?_)
  exact (show bodyPost _ _ _ .ret _ _ from ret1 (.agg (ints .u8 (s5.out))) rfl (QaZ g4 61 _ r4_8 kj kj (isz (n:=32) kj ((Qac _ _).trans (show s5.out.length=32 from rfl)))) ⟨by rw [show dig t=s5.out by rw [hs5]; rfl],(Puts.ext p8 xx1 (qT (Rely.Ext.refl w).size l4))⟩)
end Go.Proofs.YtmljnchhgkfemaaDoor.Sha
end
section
namespace Go.Proofs.YtmljnchhgkfemaaDoor.Sha
open Go Go.RowKit
open Rely Auto Own
def pat (ps : List (Value×List Int)) (i:Nat):Value×List Int:=ps.getD i (undef,[])
def flat (ps : List (Value×List Int)) (i:Nat):List Int:=((ps.take i).map Prod.snd).flatten
theorem Qlu {ps : List (Value×List Int)} {i:Nat} (h:i<ps.length):pat ps i=ps[i]:=by simp [pat,h]
theorem Qhg {ps : List (Value×List Int)} {i:Nat} (h:i<ps.length):pat ps i∈ps:=by rw [Qlu h]; exact List.getElem_mem h
theorem QnO {ps : List (Value×List Int)} {i:Nat} (h:i<ps.length):(ps.map Prod.fst).toArray[i]? = some (pat ps i).1:=by
  rw [Qlu h]; simp [h]
theorem Qgh {ps : List (Value×List Int)} {i:Nat} (h:i<ps.length):flat ps (i+1)=flat ps i++(pat ps i).2:=by
  unfold flat
  rw [List.take_add_one,List.getElem?_eq_getElem h,Qlu h,List.map_append,List.flatten_append]
  show _++[ps[i].2].flatten=_
  rw [List.flatten_singleton]
theorem QeN {ps : List (Value×List Int)} {n:Nat} (h:ps.length=n):flat ps n=(ps.map Prod.snd).flatten:=by
  subst h; simp [flat]
theorem QlV {ps : List (Value×List Int)} {i:Nat} (h:i<ps.length):(flat ps i).length+(pat ps i).2.length≤((ps.map Prod.snd).flatten).length:=by
  have e:(flat ps (i+1)).length=(flat ps i).length+(pat ps i).2.length:=by rw [Qgh h,List.length_append]
  rw [←e]
  have:(ps.map Prod.snd).flatten=flat ps (i+1)++((ps.drop (i+1)).map Prod.snd).flatten:=by
    unfold flat
    rw [←List.flatten_append,←List.map_append,List.take_append_drop]
  rw [this,List.length_append]; omega
theorem Qo7 (s : S8):s.out.length=32:=rfl
theorem Qbz (t : List Int):(dig t).length=32:=Qo7 _
theorem QkW (gp n:Nat) (Tp:TypeId) (ps:List (Value×List Int)) (hn:ps.length=n) (hn9:n≤1000000) (tc tq:TypeId) (w:World) (hc:w.heap[1]? = some (.cells (ints .u64 Qca) tc)) (hq:w.heap[0]? = some (.cells (ints .u64 Qbj) tq)) (hrow:w.heap[gp]? = some (.cells (ps.map Prod.fst).toArray Tp)) (hps:∀ p∈ps,RdK .u8 w.heap.size p.2 p.1 w∧Qag p.2) (hlen:((ps.map Prod.snd).flatten).length≤900000000):Calls Tryd.prog 27 #[.slice (some ⟨gp,0,none⟩) n n] w (Ret w (.agg (ints .u8 (dig ((ps.map Prod.snd).flatten))))):=by
 refine enter 19 [(0,.slice (some ⟨gp,0,none⟩) n n)] Tryd.func27 rfl rfl kj rfl <| sgC fun K4 hK4=>Qaj (ints .u8 (List.replicate 32 0)) 61 2 rfl kj kj fun g5 W1 l5 e1 r5_1=>?_
 have x1:=Ext.tr (Rely.Ext.refl w) e1
 refine sgN hK4 <| sgC fun K6 hK6=>QaA (fun v W'=>(fun v W=>∃ g,v=.pointer (some ⟨g,0,none⟩)∧W1.heap.size≤g∧HasD g [] W) v W'∧Ext W1 W') 48 #[] 6 rfl kj kj ((newC tq _ (Qaa hq e1)).mono (by rintro e w' ⟨v,rfl,e1,hv⟩; exact ⟨v,rfl,hv,e1⟩)) fun vv7 W2 hh7=>?_
 obtain ⟨hv7,e2⟩:=hh7
 obtain ⟨gd8,rfl,ld8,hD8⟩:=hv7
 have b8:=qT x1.size ld8
 refine sg 1 kj <| sgN hK6 <| wp_seq_k fun K9 hK9=>sgB kj <| wp_block <| QaN (fun (s1:Nat)=>[(7,.slice (some ⟨gp,0,none⟩) n n),(8,.int .i64 ((n:Nat):Int)),(9,.int .i64 ((s1:Nat):Int)),(3,.pointer (some ⟨gd8,0,none⟩)),(2,.pointer (some ⟨g5,0,none⟩))]) (fun (s1:Nat) W=>(s1≤n)∧(HasD gd8 (flat ps s1) W)∧(Qau [gd8] W2 W)∧(Ext w W)) (fun (s1:Nat)=>n-s1) 0 ⟨kj,kj,kj,kj,kj,trivial⟩ ⟨(Nat.zero_le _),(show HasD _ (flat ps 0) _ from hD8),(Qau.refl [gd8] W2),(Ext.tr x1 e2)⟩ fun s1 X1 V1 hI1=>?_
 obtain ⟨i,hs1⟩:∃ z,z=s1:=⟨_,rfl⟩
 subst hs1
 obtain ⟨hi,hDi,kk1,xx1⟩:=hI1
 replace hi:i≤n:=hi
 replace hDi:HasD gd8 (flat ps i) V1:=hDi
 replace kk1:Qau [gd8] W2 V1:=kk1
 replace xx1:Ext w V1:=xx1
 have q3:=kk1
 refine sgB kj <| wp_seq_k fun K12 hK12=>Qa9 (t:=decide (((i:Nat):Int)<((n:Nat):Int))) kj (fun c13=>?_) (fun c13=>?_)
 ·skip
  have hlt10:i<n:=by have:=of_decide_eq_true c13; omega
  refine wp_skip <| hK12 _ _ <| wp_seq_k fun K14 hK14=>wp_block <| sgC fun K15 hK15=>?_
  have hi2:i<ps.length:=by omega
  refine Qad (.pointer (some ⟨gp,i,none⟩)) 11 rfl kj (QbE 87 _ _ .i64 i gp n n 24 rfl kj kj kj kj hlt10) ?_
  have r3_1:=(Qaa hrow e1)
  refine Qad ((pat ps i).1) 12 rfl kj (Qb1 24 _ _ ((pat ps i).1) (QaI (Qau.row q3 (Qaa r3_1 e2) (Qba (Qab r3_1 ld8) Qbm)) (QnO hi2)) rfl kj kj) <| sg 1 kj <| sgN hK15 <| Qan <| sg 2 kj ?_
  have r1_1:=(Qaa hc e1)
  have r1_2:=(Qaa r1_1 e2)
  have r1_3:=(Qau.row q3 r1_2 (Qba (Qab r1_1 ld8) Qbm))
  have hp6:=(hps _ (Qhg hi2)).1.ext xx1
  have hl6:=QlV hi2
  refine QaA (fun v W'=>v=.tuple #[]∧ExtB gd8 V1 W'∧HasD gd8 ((flat ps i)++(pat ps i).2) W') 49 #[.pointer (some ⟨gd8,0,none⟩),(pat ps i).1] 15 rfl kj kj ((addC gd8 _ _ _ _ tc _ r1_3 (Nat.ne_of_lt (qL (Qa4 hc) b8)) (hp6.nb b8) (hps _ (Qhg hi2)).2 (by omega) hDi hp6).mono fun e w' h=>⟨_,h.1,rfl,h.2⟩) fun v W4 h=>?_
  obtain ⟨rfl,q4,hDn⟩:=h
  have x4:=ExtB.up xx1 q4 b8
  refine Qaz <| hK14 _ _ <| Qan <| Qad (.int .i64 ((i+1:Nat):Int)) 16 rfl kj (Qal (u:=.int .i64 (IntKind.i64.wrap (((i:Nat):Int)+1))) kj (congrArg (Value.int .i64) (i64n _ _ (by omega) (by omega)))) <| sg 1 kj <| Qaz ?_
  repeat (first | with_reducible refine goX1 ?_ | with_reducible refine goX2 ?_ | with_reducible refine goX3 ?_)
  exact QaG (i+1) ⟨kj,kj,kj,kj,kj,trivial⟩ ⟨(by omega),(by rw [Qgh hi2]; exact hDn),(Qau.but q3 q4 (.inl (by simp))),x4⟩ (by omega)
 ·skip
  have heq10:i=n:=by have:=of_decide_eq_false c13; omega
  refine wp_exit <| hK9 _ _ <| sgC fun K16 hK16=>sg 1 kj ?_
  have r1_1:=(Qaa hc e1)
  have r1_2:=(Qaa r1_1 e2)
  have r1_3:=(Qau.row q3 r1_2 (Qba (Qab r1_1 ld8) Qbm))
  refine Qao (.agg (ints .u8 (dig (flat ps i)))) 50 #[.pointer (some ⟨gd8,0,none⟩)] 18 rfl kj kj (sumC gd8 _ tc _ r1_3 (by rw [heq10,QeN hn]; exact hlen) hDi) fun W4 e4=>?_
  have x4:=Ext.tr xx1 e4
  have r5_4:=(Qaa (Qau.row q3 (Qaa r5_1 e2) (Qba (Qab r5_1 ld8) Qbm)) e4)
  refine Qah g5 _ (ints .u8 (dig (flat ps i))) 61 r5_4 rfl kj (Qaf 61 _ _ g5 61 _ _ r5_4 rfl kj kj (isz (n:=32) kj ((Qac _ _).trans (Qbz _))) (eqsz (n:=32) ((Qac _ _).trans (qZ (n:=32))) ((Qac _ _).trans (Qbz _))) (ints_one _ _)) fun W5 p5 r5_5=>sgN hK16 <| wp_ret ?_
  repeat (first | with_reducible refine goR1 ?_ | with_reducible refine goR2 ?_)
  exact (show bodyPost _ _ _ .ret _ _ from ret1 (.agg (ints .u8 (dig (flat ps i)))) rfl (QaZ g5 61 _ r5_5 kj kj (isz (n:=32) kj ((Qac _ _).trans (Qbz _)))) ⟨by rw [heq10,QeN hn],(Puts.ext p5 x4 (qT (Rely.Ext.refl w).size l5))⟩)
end Go.Proofs.YtmljnchhgkfemaaDoor.Sha
end
section
namespace Go.Proofs.YtmljnchhgkfemaaDoor.Sha
open Go Go.RowKit
open Rely Auto Own
theorem QkL (x : Wd):Qag (wby x):=fun y hy=>by
  simp only [wby,List.mem_cons,List.not_mem_nil,or_false] at hy
  rcases hy with h | h | h | h <;> omega
theorem Qgj (t : List Int):Qag (dig t):=fun y hy=>by
  unfold dig S8.out at hy
  obtain ⟨x,_,h⟩:=List.mem_flatMap.1 hy
  exact QkL x y h
def xorb (c x:Int):Int:=bits .xor .u8 x c
theorem QkI (c x:Int):0≤xorb c x∧xorb c x≤255:=by
  unfold xorb bits
  have:∀ z:Int,IntKind.u8.wrap z=z%2^8:=fun _=>rfl
  rw [this]; omega
def keyL (key : List Int):List Int:=if 64<key.length then dig key else key
def keyB (key : List Int):List Int:=keyL key++List.replicate (64-(keyL key).length) 0
def padX (c : Int) (key:List Int):List Int:=(keyB key).map (xorb c)
def hmac (key t:List Int):List Int:=dig (padX 92 key++dig (padX 54 key++t))
theorem Qnh (key : List Int):(keyL key).length≤64:=by
  unfold keyL
  split
  · rw [Qbz]; decide
  · omega
theorem Qcn (key : List Int):(keyB key).length=64:=by
  have:=Qnh key
  simp [keyB]; omega
theorem QaK (c : Int) (key:List Int):(padX c key).length=64:=by rw [padX,List.length_map,Qcn]
theorem Qg6 (c : Int) (key:List Int):Qag (padX c key):=fun y hy=>by
  obtain ⟨x,_,rfl⟩:=List.mem_map.1 hy
  exact QkI c x
theorem QfA (c : Int) (key:List Int) {i:Nat} (h:i<64):nth (padX c key) i=bits .xor .u8 (nth (keyB key) i) c:=by
  have hl:=Qcn key
  show nth ((keyB key).map (xorb c)) i=xorb c (nth (keyB key) i)
  simp [nth,List.getD_eq_getElem?_getD,show i<(keyB key).length by omega]
theorem QbX (key t:List Int):(hmac key t).length=32:=Qbz _
theorem QgH (key t:List Int):Qag (hmac key t):=Qgj _
def puts (xs ys:List Int) (m:Nat):List Int:=xs.take m++ys.drop m
theorem Qjy {xs ys:List Int} {n m:Nat} (hx:xs.length=n) (hy:ys.length=n) (hm:m≤n):(puts xs ys m).length=n:=by simp [puts]; omega
theorem QhW (xs ys:List Int):puts xs ys 0=ys:=by simp [puts]
theorem QhX {xs ys:List Int} {n:Nat} (hx:xs.length=n) (hy:ys.length=n):puts xs ys n=xs:=by
  unfold puts
  rw [List.take_of_length_le (by omega),List.drop_of_length_le (by omega),List.append_nil]
theorem Qjx {xs ys:List Int} {n m:Nat} (hx:xs.length=n) (hy:ys.length=n) (hm:m<n):(puts xs ys m).set m (nth xs m)=puts xs ys (m+1):=by
  unfold puts
  have hl:(xs.take m).length=m:=by rw [List.length_take]; omega
  rw [List.set_append_right _ _ (by omega),hl,Nat.sub_self,List.drop_eq_getElem_cons (by omega),List.set_cons_zero,List.take_add_one,List.getElem?_eq_getElem (by omega),List.append_assoc]
  simp [nth,show m<xs.length by omega]
section
variable {ds : List Deferred} {P : Program} {ops : Array Oper} {Q : Exit → Act → World → Prop} {rest : List Oper} {o : Oper} {N : Nat} {L : Env} {W : World}
theorem QhM {k : IntKind} {e:TypeId} (x y:Operand) (tx ty:TypeId) (d:Nat) (ho:o.op=.call { callee:=.builtin .copy,args:=#[x,y],argTypes:=#[tx,ty] }) (hu:P.underlying tx=some (.slice e)) (hsz:(P.info? e).map (·.size)=some 1) (hd:o.dst=some d) (hgd:Qcd ops o N L=some true)
    {g off dl dc n B:Nat} {xs z:List Int} {v:Value} {T:TypeId} (hx:Rely.look (envN N L) x=.slice (some ⟨g,off,none⟩) dl dc) (hy:Rely.look (envN N L) y=v) (hr:RdK k B z v W)
    (hg:W.heap[g]? = some (.cells (ints k xs) T)) (hq:off+dl≤xs.length) (hn:n=min z.length dl)
    (kk:∀ W':World,Puts W g W'→W'.heap[g]? = some (.cells (ints k (xs.take off++z.take n++xs.drop (off+n))) T)→WL P ops Q rest (Qap ds N ((d,.int .i64 ((n:Nat):Int))::L)) W'):WL P ops Q (o::rest) (Qap ds N L) W:=by
  obtain ⟨a,cap,rfl,y2,y3,y4,y5⟩:=hr
  have hgo:∀ W',(Builtin.copy_ #[tx,ty] o.type #[.slice (some ⟨g,off,none⟩) dl dc,.slice a z.length cap]).run P W=.ok (goInt n) W'→(execOp (Rely.look (envN N L)) o).run P W=.ok (.value (.int .i64 ((n:Nat):Int))) W':=fun W' h=>by
    unfold execOp
    simp only [ho,resolve,invoke,builtin,Sem.run_bind,Sem.run_pure,Result.andThen_ok,List.map_toArray,List.map_cons,List.map_nil,hx,hy,h,goInt]
  rcases Nat.eq_zero_or_pos n with h0 | h0
  · refine QbN _ _ d hd hgd (hgo W ?_) (kk W ⟨rfl,rfl,rfl,rfl,fun _ _=>rfl⟩ ?_)
    · rw [h0]; exact run_copy_none W tx ty o.type e _ _ _ _ _ _ hu hsz (hn.symm.trans h0)
    · rw [h0,List.take_zero,List.append_nil,Nat.add_zero,List.take_append_drop]; exact hg
  · obtain ⟨gz,oz,rfl,z2,z3,z4⟩:=y5.resolve_left (fun e=>by rw [e] at hn; simp at hn; omega)
    have hlen:((z.take n).map (Value.int k)).length=n:=by simp; omega
    have h:=run_copy_row (P:=P) W tx ty o.type e g off dl dc ⟨gz,oz,none⟩ z.length cap (ints k xs) T ((z.take n).map (Value.int k)) hu hsz hg (by rw [hlen]; exact hn)
      (Qif (k:=k) (ys:=z.take n) fun i hi=>by
        rw [List.length_take] at hi
        rw [z4 i (by omega)]
        simp [nth,show i<n by omega]) (by rw [hlen,Qac]; omega) (Qks k _)
    rw [hlen] at h
    have e1:((ints k xs).toList.take off++(z.take n).map (Value.int k)++(ints k xs).toList.drop (off+n)).toArray=ints k (xs.take off++z.take n++xs.drop (off+n)):=by
      apply Array.ext'
      show (xs.map (Value.int k)).take off++(z.take n).map (Value.int k)++(xs.map (Value.int k)).drop (off+n)=(xs.take off++z.take n++xs.drop (off+n)).map (Value.int k)
      simp only [List.map_append,List.map_take,List.map_drop]
    rw [e1] at h
    exact QbN _ _ d hd hgd (hgo _ h) (kk _ (Qb6 _ _ _) (setRow_heap _ _ _ _ _ _ hg))
end
theorem QlH {key : List Int} (h:64<key.length):(List.replicate 64 (0:Int)).take 0++(dig key).take 32++(List.replicate 64 (0:Int)).drop (0+32)=keyB key:=by
  have hd:=Qbz key
  unfold keyB keyL
  rw [if_pos h,hd,List.take_zero,List.nil_append,List.take_of_length_le (by omega),List.drop_replicate]
theorem Qk2 {key : List Int} (h:¬ 64<key.length) (n:Nat) (hn:n=min key.length 64):(List.replicate 64 (0:Int)).take 0++key.take n++(List.replicate 64 (0:Int)).drop (0+n)=keyB key:=by
  unfold keyB keyL
  rw [if_neg h,List.take_zero,List.nil_append,List.take_of_length_le (by omega),List.drop_replicate,show 64-(0+n)=64-key.length by omega]
end Go.Proofs.YtmljnchhgkfemaaDoor.Sha
end
section
namespace Go.Proofs.YtmljnchhgkfemaaDoor.Sha
open Go Go.RowKit
open Rely Auto Own
theorem Qq8 (key : List Int) (v:Value) (B:Nat) (tc tq:TypeId) (w:World) (hc:w.heap[1]? = some (.cells (ints .u64 Qca) tc)) (hq:w.heap[0]? = some (.cells (ints .u64 Qbj) tq)) (hkb:Qag key) (hkl:key.length≤800000000) (hk:RdK .u8 B key v w) :
  Calls Tryd.prog 72 #[v] w (Ret w (.tuple #[.agg (ints .u8 (padX 54 key)),.agg (ints .u8 (padX 92 key))])):=by
 obtain ⟨a_key,c_key,rfl,-⟩:=id hk
 refine enter 35 [(0,.slice a_key key.length c_key)] Tryd.func72 rfl rfl kj rfl <| sgC fun K3 hK3=>Qaj (ints .u8 (List.replicate 64 0)) 98 2 rfl kj kj fun g4 W1 l4 e1 r4_1=>?_
 have x1:=Ext.tr (Rely.Ext.refl w) e1
 have b4:=qT (Rely.Ext.refl w).size l4
 refine Qaj (ints .u8 (List.replicate 64 0)) 98 3 rfl kj kj fun g5 W2 l5 e2 r5_2=>?_
 have x2:=Ext.tr x1 e2
 have b5:=qT x1.size l5
 refine sgN hK3 <| wp_seq_k fun K6 hK6=>sgB kj <| Qa9 (t:=decide (((key.length:Nat):Int)>64)) kj (fun c8=>?_) (fun c8=>?_)
 ·skip
  have hlong:64<key.length:=by have:=of_decide_eq_true c8; omega
  refine sgC fun K9 hK9=>sg 1 kj <| Qbw (#[.slice a_key key.length c_key]) 24 1 11 rfl kj kj fun g10 W3 l10 e3 r10_3=>?_
  have x3:=Ext.tr x2 e3
  have b10:=qT x2.size l10
  have hps11:∀ p∈([(.slice a_key key.length c_key,key)]:List (Value×List Int)),RdK .u8 W3.heap.size p.2 p.1 W3∧Qag p.2:=by
   intro p hp
   simp only [List.mem_cons,List.not_mem_nil,or_false] at hp
   rcases hp with rfl
   ·exact ⟨RdK.here (RdK.ext hk x3),hkb⟩
  have hsh11:=QkW g10 1 _ ([(.slice a_key key.length c_key,key)]:List (Value×List Int)) rfl (by decide) tc tq W3 (Qaa (Qaa (Qaa hc e1) e2) e3) (Qaa (Qaa (Qaa hq e1) e2) e3) r10_3 hps11 (by simp only [List.map_cons,List.map_nil,List.flatten_cons,List.flatten_nil,List.append_nil,List.length_append]; omega)
  rw [show ((List.map Prod.snd ([(.slice a_key key.length c_key,key)]:List (Value×List Int))).flatten)=key by simp only [List.map_cons,List.map_nil,List.flatten_cons,List.flatten_nil,List.append_nil]] at hsh11
  refine Qao (.agg (ints .u8 (dig (key)))) 27 #[.slice (some ⟨g10,0,none⟩) 1 1] 12 rfl kj kj hsh11 fun W4 e4=>?_
  have x4:=Ext.tr x3 e4
  refine Qaj (ints .u8 (List.replicate 32 0)) 61 4 rfl kj kj fun g12 W5 l12 e5 r12_5=>?_
  have x5:=Ext.tr x4 e5
  refine Qah g12 _ (ints .u8 (dig (key))) 61 r12_5 rfl kj (Qaf 61 _ _ g12 61 _ _ r12_5 rfl kj kj (isz (n:=32) kj ((Qac _ _).trans (Qbz _))) (eqsz (n:=32) ((Qac _ _).trans (qZ (n:=32))) ((Qac _ _).trans (Qbz _))) (ints_one _ _)) fun W6 p6 r12_6=>?_
  have x6:=Puts.ext p6 x5 (qT x4.size l12)
  refine sgN hK9 <| Qbf 2 [⟨none,[(2,none)]⟩,⟨none,[(4,none)]⟩] kj kj fun F hF=>QaL (Qaq _) (.slice (some ⟨g4,0,none⟩) 64 64) kj kj (fun W=>by kernel_rfl) <| QaL (Qaq _) (.slice (some ⟨g12,0,none⟩) 32 32) kj kj (fun W=>by kernel_rfl) <| QdN (hF _ fun W7 e7=>?_)
  simp only [List.nil_append,List.cons_append,List.take_succ_cons,List.take_zero,List.drop_succ_cons,List.drop_zero,finE,up]
  clear hF
  have x7:=Ext.tr x6 e7
  have r4_2:=(Qaa r4_1 e2)
  have r4_3:=(Qaa r4_2 e3)
  have r4_4:=(Qaa r4_3 e4)
  have r4_5:=(Qaa r4_4 e5)
  have r4_6:=(Puts.row p6 r4_5 (Qab r4_4 l12))
  have r4_7:=(Qaa r4_6 e7)
  have r12_7:=(Qaa r12_6 e7)
  refine QhM (k:=.u8) (e:=5) (z:=dig (key)) (.tmp 13) (.tmp 14) 24 24 15 rfl kj kj rfl kj (off:=0) (dl:=64) (dc:=64) (n:=32) (xs:=List.replicate 64 0) kj kj (QbB (xs:=dig (key)) (n:=32) (Qbz _) r12_7 (Qa4 r12_7) (show 32≤maxLen from by decide)) r4_7 (qT (show 0+(64)≤64 from (by omega)) (qE (qZ (n:=64)).symm)) (by rw [Qbz]; rfl) fun W8 p8 r4_8=>?_
  refine Qaz <| hK6 _ _ <| wp_seq_k fun K13 hK13=>sgC fun K14 hK14=>?_
  have r4_8_15:W8.heap[g4]? = some (.cells (ints .u8 (keyB key)) 98):=QaC r4_8 (QlH hlong)
  refine Qad (.agg (ints .u8 (keyB key))) 19 rfl kj (Qae 98 _ g4 98 _ _ r4_8_15 rfl kj kj (isz (n:=64) kj ((Qac _ _).trans (Qcn key)))) <| sg 1 kj <| sgN hK14 <| wp_block ?_
  have n_4_5:g4≠g5:=(Qab r4_1 l5)
  have n_5_4:g5≠g4:=(Qav r4_1 l5)
  have r5_3:=(Qaa r5_2 e3)
  have r5_4:=(Qaa r5_3 e4)
  have r5_5:=(Qaa r5_4 e5)
  have r5_6:=(Puts.row p6 r5_5 (Qab r5_4 l12))
  have r5_7:=(Qaa r5_6 e7)
  refine QaN (fun (s1:Nat)=>[(2,.pointer (some ⟨g4,0,none⟩)),(3,.pointer (some ⟨g5,0,none⟩)),(19,.agg (ints .u8 (keyB key))),(20,.int .i64 ((s1:Nat):Int))]) (fun (s1:Nat) W=>(s1≤64)∧(W.heap[g4]? = some (.cells (ints .u8 (puts (padX 54 key) (keyB key) s1)) 98))∧(W.heap[g5]? = some (.cells (ints .u8 (fill (padX 92 key) 64 s1)) 98))∧(Qau [g4,g5] W8 W)∧(Ext w W)) (fun (s1:Nat)=>64-s1) 0 ⟨kj,kj,kj,kj,trivial⟩ ⟨(Nat.zero_le _),(QaC r4_8_15 (QhW _ _).symm),(QaC (Puts.row p8 r5_7 n_5_4) (Qea _ 64).symm),(Qau.refl [g4,g5] W8),(Puts.ext p8 x7 b4)⟩ fun s1 X1 V1 hI1=>?_
  obtain ⟨i,hs1⟩:∃ z,z=s1:=⟨_,rfl⟩
  subst hs1
  obtain ⟨hi,q4_1,q5_1,kk1,xx1⟩:=hI1
  replace hi:i≤64:=hi
  replace q4_1:V1.heap[g4]? = some (.cells (ints .u8 (puts (padX 54 key) (keyB key) i)) 98):=q4_1
  replace q5_1:V1.heap[g5]? = some (.cells (ints .u8 (fill (padX 92 key) 64 i)) 98):=q5_1
  replace kk1:Qau [g4,g5] W8 V1:=kk1
  replace xx1:Ext w V1:=xx1
  have q9:=kk1
  refine sgB kj <| wp_seq_k fun K17 hK17=>Qa9 (t:=decide (((i:Nat):Int)<64)) kj (fun c18=>?_) (fun c18=>?_)
  ·skip
   have hlt21:i<64:=by have:=of_decide_eq_true c18; omega
   refine wp_skip <| hK17 _ _ <| wp_seq_k fun K19 hK19=>wp_block <| sgC fun K20 hK20=>sg 1 kj <| Qad (.int .u8 (nth (keyB key) i)) 23 rfl kj (Qa7 98 _ _ .i64 .u8 (keyB key) i 64 5 (nth (keyB key) i) rfl kj kj kj kj kj (Qcn key) (by omega) rfl) <| sg 2 kj <| sgN hK20 <| Qan ?_
   refine sg 3 kj <| Qad (.int .u8 (nth (padX 54 key) i)) 27 rfl kj (Qal (u:=.int .u8 (bits .xor .u8 ((nth (keyB key) i)) (54))) kj (congrArg (Value.int .u8) (QfA 54 key hlt21).symm)) <| sg 1 kj <| Qad (.int .u8 (nth (padX 92 key) i)) 29 rfl kj (Qal (u:=.int .u8 (bits .xor .u8 ((nth (keyB key) i)) (92))) kj (congrArg (Value.int .u8) (QfA 92 key hlt21).symm)) <| Qad (.pointer (some ⟨g4,i,none⟩)) 30 rfl kj (Qa3 _ _ _ .i64 (i) _ 64 5 rfl kj kj kj kj (by omega)) <| Qah g4 _ (ints .u8 ((puts (padX 54 key) (keyB key) i).set i (nth (padX 54 key) i))) 98 q4_1 rfl kj (Qaw 5 _ _ g4 i 98 _ _ q4_1 rfl kj kj kj (Nat.lt_of_lt_of_eq (by omega) (Qjy (QaK 54 key) (Qcn key) (by omega)).symm)) fun W10 p10 r4_10=>?_
   have x10:=Puts.ext p10 xx1 b4
   refine Qad (.pointer (some ⟨g5,i,none⟩)) 31 rfl kj (Qa3 _ _ _ .i64 (i) _ 64 5 rfl kj kj kj kj (by omega)) ?_
   have r5_10:=(Puts.row p10 q5_1 n_5_4)
   refine Qah g5 _ (ints .u8 ((fill (padX 92 key) 64 i).set i (nth (padX 92 key) i))) 98 r5_10 rfl kj (Qaw 5 _ _ g5 i 98 _ _ r5_10 rfl kj kj kj (Nat.lt_of_lt_of_eq (by omega) (QbH (QaK 92 key) (by omega)).symm)) fun W11 p11 r5_11=>?_
   have x11:=Puts.ext p11 x10 b5
   refine Qaz <| hK19 _ _ <| Qan <| Qad (.int .i64 ((i+1:Nat):Int)) 32 rfl kj (Qal (u:=.int .i64 (IntKind.i64.wrap (((i:Nat):Int)+1))) kj (congrArg (Value.int .i64) (i64n _ _ (by omega) (by omega)))) <| sg 1 kj <| Qaz ?_
   have r4_11:=(Puts.row p11 r4_10 n_4_5)
   repeat (first | with_reducible refine goX1 ?_ | with_reducible refine goX2 ?_ | with_reducible refine goX3 ?_)
   exact QaG (i+1) ⟨kj,kj,kj,kj,trivial⟩ ⟨(by omega),(QaC r4_11 (Qjx (QaK 54 key) (Qcn key) hlt21)),(QaC r5_11 (Qde (QaK 92 key) hlt21)),(Qau.puts (Qau.puts q9 p10 (.inl (by simp))) p11 (.inl (by simp))),x11⟩ (by omega)
  ·skip
   have heq21:i=64:=by have:=of_decide_eq_false c18; omega
   have r4_9_21:V1.heap[g4]? = some (.cells (ints .u8 (padX 54 key)) 98):=QaC q4_1 (by rw [heq21]; exact QhX (QaK 54 key) (Qcn key))
   have r5_9_22:V1.heap[g5]? = some (.cells (ints .u8 (padX 92 key)) 98):=QaC q5_1 (by rw [heq21]; exact Qd8 (QaK 92 key))
   refine wp_exit <| hK13 _ _ <| wp_seq_k fun K23 hK23=>Qcv (fun W=>W.heap[g5]? = some (.cells (ints .u8 (padX 92 key)) 98)) [⟨none,[(2,none)]⟩,⟨none,[(3,none)]⟩,⟨none,[(2,none),(33,some 0)]⟩,⟨none,[(3,none),(34,some 1)]⟩] [] [1] kj kj kj (fun W hR=>Qaa r5_9_22 hR) fun F hF=>Qbv (.agg (ints .u8 (padX 54 key))) kj kj kj rfl (fun W hR=>(Qae 98 _ g4 98 _ _ (Qaa (Qaa r4_9_21 (Qai _)) hR) rfl kj kj (isz (n:=64) kj ((Qac _ _).trans (QaK 54 key))))) <| QfO (.agg (ints .u8 (padX 92 key))) kj kj kj rfl (fun W hW=>(Qae 98 _ g5 98 _ _ hW rfl kj kj (isz (n:=64) kj ((Qac _ _).trans (QaK 92 key))))) <| QbY rfl <| QbY rfl <| QgV (hF _ kj fun W10 e10=>?_)
   simp only [List.nil_append,List.cons_append,fins,up]
   clear hF
   have x10:=Ext.tr xx1 e10
   have r4_10:=(Qaa r4_9_21 e10)
   have r5_10:=(Qaa r5_9_22 e10)
   refine QbL _ g4 _ (ints .u8 (padX 54 key)) 98 r4_10 rfl (Qaf 98 _ _ g4 98 _ _ r4_10 rfl kj kj (isz (n:=64) kj ((Qac _ _).trans (QaK 54 key))) (eqsz (n:=64) ((Qac _ _).trans (QaK 54 key)) ((Qac _ _).trans (QaK 54 key))) (ints_one _ _)) (fun W hp=>Puts.row hp r5_10 n_5_4) fun W11 p11 r4_11=>?_
   have x11:=Puts.ext p11 x10 b4
   have r5_11:=(Puts.row p11 r5_10 n_5_4)
   refine QhE _ g5 _ (ints .u8 (padX 92 key)) 98 r5_11 rfl (Qaf 98 _ _ g5 98 _ _ r5_11 rfl kj kj (isz (n:=64) kj ((Qac _ _).trans (QaK 92 key))) (eqsz (n:=64) ((Qac _ _).trans (QaK 92 key)) ((Qac _ _).trans (QaK 92 key))) (ints_one _ _)) (fun W hp hrw=>hrw) fun W12 p12 r5_12=>QeC <| hK23 _ _ <| wp_ret ?_
   repeat (first | with_reducible refine goR1 ?_ | with_reducible refine goR2 ?_)
   exact (show bodyPost _ _ _ .ret _ _ from ret2 (.agg (ints .u8 (padX 54 key))) (.agg (ints .u8 (padX 92 key))) rfl (QaZ g4 98 _ (Puts.row p12 r4_11 n_4_5) kj kj (isz (n:=64) kj ((Qac _ _).trans (QaK 54 key)))) (QaZ g5 98 _ r5_12 kj kj (isz (n:=64) kj ((Qac _ _).trans (QaK 92 key)))) ⟨rfl,(Puts.ext p12 x11 b5)⟩)
 ·skip
  have hlong:¬ 64<key.length:=by have:=of_decide_eq_false c8; omega
  refine Qan <| sg 2 kj ?_
  have r4_2:=(Qaa r4_1 e2)
  refine QhM (k:=.u8) (e:=5) (z:=key) (.tmp 16) (.tmp 17) 24 24 18 rfl kj kj rfl kj (off:=0) (dl:=64) (dc:=64) (n:=(min key.length 64)) (xs:=List.replicate 64 0) kj kj (RdK.ext hk x2) r4_2 (qT (show 0+(64)≤64 from (by omega)) (qE (qZ (n:=64)).symm)) rfl fun W3 p3 r4_3=>?_
  have x3:=Puts.ext p3 x2 b4
  refine Qaz <| hK6 _ _ <| wp_seq_k fun K24 hK24=>sgC fun K25 hK25=>?_
  have r4_3_26:W3.heap[g4]? = some (.cells (ints .u8 (keyB key)) 98):=QaC r4_3 (Qk2 hlong _ rfl)
  refine Qad (.agg (ints .u8 (keyB key))) 19 rfl kj (Qae 98 _ g4 98 _ _ r4_3_26 rfl kj kj (isz (n:=64) kj ((Qac _ _).trans (Qcn key)))) <| sg 1 kj <| sgN hK25 <| wp_block ?_
  have n_4_5:g4≠g5:=(Qab r4_1 l5)
  have n_5_4:g5≠g4:=(Qav r4_1 l5)
  have r5_3:=(Puts.row p3 r5_2 n_5_4)
  refine QaN (fun (s2:Nat)=>[(2,.pointer (some ⟨g4,0,none⟩)),(3,.pointer (some ⟨g5,0,none⟩)),(19,.agg (ints .u8 (keyB key))),(20,.int .i64 ((s2:Nat):Int))]) (fun (s2:Nat) W=>(s2≤64)∧(W.heap[g4]? = some (.cells (ints .u8 (puts (padX 54 key) (keyB key) s2)) 98))∧(W.heap[g5]? = some (.cells (ints .u8 (fill (padX 92 key) 64 s2)) 98))∧(Qau [g4,g5] W3 W)∧(Ext w W)) (fun (s2:Nat)=>64-s2) 0 ⟨kj,kj,kj,kj,trivial⟩ ⟨(Nat.zero_le _),(QaC r4_3_26 (QhW _ _).symm),(QaC r5_3 (Qea _ 64).symm),(Qau.refl [g4,g5] W3),x3⟩ fun s2 X2 V2 hI2=>?_
  obtain ⟨i,hs2⟩:∃ z,z=s2:=⟨_,rfl⟩
  subst hs2
  obtain ⟨hi,q4_2,q5_2,kk2,xx2⟩:=hI2
  replace hi:i≤64:=hi
  replace q4_2:V2.heap[g4]? = some (.cells (ints .u8 (puts (padX 54 key) (keyB key) i)) 98):=q4_2
  replace q5_2:V2.heap[g5]? = some (.cells (ints .u8 (fill (padX 92 key) 64 i)) 98):=q5_2
  replace kk2:Qau [g4,g5] W3 V2:=kk2
  replace xx2:Ext w V2:=xx2
  have q4:=kk2
  refine sgB kj <| wp_seq_k fun K28 hK28=>Qa9 (t:=decide (((i:Nat):Int)<64)) kj (fun c29=>?_) (fun c29=>?_)
  ·skip
   have hlt21:i<64:=by have:=of_decide_eq_true c29; omega
   refine wp_skip <| hK28 _ _ <| wp_seq_k fun K30 hK30=>wp_block <| sgC fun K31 hK31=>sg 1 kj <| Qad (.int .u8 (nth (keyB key) i)) 23 rfl kj (Qa7 98 _ _ .i64 .u8 (keyB key) i 64 5 (nth (keyB key) i) rfl kj kj kj kj kj (Qcn key) (by omega) rfl) <| sg 2 kj <| sgN hK31 <| Qan ?_
   refine sg 3 kj <| Qad (.int .u8 (nth (padX 54 key) i)) 27 rfl kj (Qal (u:=.int .u8 (bits .xor .u8 ((nth (keyB key) i)) (54))) kj (congrArg (Value.int .u8) (QfA 54 key hlt21).symm)) <| sg 1 kj <| Qad (.int .u8 (nth (padX 92 key) i)) 29 rfl kj (Qal (u:=.int .u8 (bits .xor .u8 ((nth (keyB key) i)) (92))) kj (congrArg (Value.int .u8) (QfA 92 key hlt21).symm)) <| Qad (.pointer (some ⟨g4,i,none⟩)) 30 rfl kj (Qa3 _ _ _ .i64 (i) _ 64 5 rfl kj kj kj kj (by omega)) <| Qah g4 _ (ints .u8 ((puts (padX 54 key) (keyB key) i).set i (nth (padX 54 key) i))) 98 q4_2 rfl kj (Qaw 5 _ _ g4 i 98 _ _ q4_2 rfl kj kj kj (Nat.lt_of_lt_of_eq (by omega) (Qjy (QaK 54 key) (Qcn key) (by omega)).symm)) fun W5 p5 r4_5=>?_
   have x5:=Puts.ext p5 xx2 b4
   refine Qad (.pointer (some ⟨g5,i,none⟩)) 31 rfl kj (Qa3 _ _ _ .i64 (i) _ 64 5 rfl kj kj kj kj (by omega)) ?_
   have r5_5:=(Puts.row p5 q5_2 n_5_4)
   refine Qah g5 _ (ints .u8 ((fill (padX 92 key) 64 i).set i (nth (padX 92 key) i))) 98 r5_5 rfl kj (Qaw 5 _ _ g5 i 98 _ _ r5_5 rfl kj kj kj (Nat.lt_of_lt_of_eq (by omega) (QbH (QaK 92 key) (by omega)).symm)) fun W6 p6 r5_6=>?_
   have x6:=Puts.ext p6 x5 b5
   refine Qaz <| hK30 _ _ <| Qan <| Qad (.int .i64 ((i+1:Nat):Int)) 32 rfl kj (Qal (u:=.int .i64 (IntKind.i64.wrap (((i:Nat):Int)+1))) kj (congrArg (Value.int .i64) (i64n _ _ (by omega) (by omega)))) <| sg 1 kj <| Qaz ?_
   have r4_6:=(Puts.row p6 r4_5 n_4_5)
   repeat (first | with_reducible refine goX1 ?_ | with_reducible refine goX2 ?_ | with_reducible refine goX3 ?_)
   exact QaG (i+1) ⟨kj,kj,kj,kj,trivial⟩ ⟨(by omega),(QaC r4_6 (Qjx (QaK 54 key) (Qcn key) hlt21)),(QaC r5_6 (Qde (QaK 92 key) hlt21)),(Qau.puts (Qau.puts q4 p5 (.inl (by simp))) p6 (.inl (by simp))),x6⟩ (by omega)
  ·skip
   have heq21:i=64:=by have:=of_decide_eq_false c29; omega
   have r4_4_32:V2.heap[g4]? = some (.cells (ints .u8 (padX 54 key)) 98):=QaC q4_2 (by rw [heq21]; exact QhX (QaK 54 key) (Qcn key))
   have r5_4_33:V2.heap[g5]? = some (.cells (ints .u8 (padX 92 key)) 98):=QaC q5_2 (by rw [heq21]; exact Qd8 (QaK 92 key))
   refine wp_exit <| hK24 _ _ <| wp_seq_k fun K34 hK34=>Qcv (fun W=>W.heap[g5]? = some (.cells (ints .u8 (padX 92 key)) 98)) [⟨none,[(2,none)]⟩,⟨none,[(3,none)]⟩,⟨none,[(2,none),(33,some 0)]⟩,⟨none,[(3,none),(34,some 1)]⟩] [] [1] kj kj kj (fun W hR=>Qaa r5_4_33 hR) fun F hF=>Qbv (.agg (ints .u8 (padX 54 key))) kj kj kj rfl (fun W hR=>(Qae 98 _ g4 98 _ _ (Qaa (Qaa r4_4_32 (Qai _)) hR) rfl kj kj (isz (n:=64) kj ((Qac _ _).trans (QaK 54 key))))) <| QfO (.agg (ints .u8 (padX 92 key))) kj kj kj rfl (fun W hW=>(Qae 98 _ g5 98 _ _ hW rfl kj kj (isz (n:=64) kj ((Qac _ _).trans (QaK 92 key))))) <| QbY rfl <| QbY rfl <| QgV (hF _ kj fun W5 e5=>?_)
   simp only [List.nil_append,List.cons_append,fins,up]
   clear hF
   have x5:=Ext.tr xx2 e5
   have r4_5:=(Qaa r4_4_32 e5)
   have r5_5:=(Qaa r5_4_33 e5)
   refine QbL _ g4 _ (ints .u8 (padX 54 key)) 98 r4_5 rfl (Qaf 98 _ _ g4 98 _ _ r4_5 rfl kj kj (isz (n:=64) kj ((Qac _ _).trans (QaK 54 key))) (eqsz (n:=64) ((Qac _ _).trans (QaK 54 key)) ((Qac _ _).trans (QaK 54 key))) (ints_one _ _)) (fun W hp=>Puts.row hp r5_5 n_5_4) fun W6 p6 r4_6=>?_
   have x6:=Puts.ext p6 x5 b4
   have r5_6:=(Puts.row p6 r5_5 n_5_4)
   refine QhE _ g5 _ (ints .u8 (padX 92 key)) 98 r5_6 rfl (Qaf 98 _ _ g5 98 _ _ r5_6 rfl kj kj (isz (n:=64) kj ((Qac _ _).trans (QaK 92 key))) (eqsz (n:=64) ((Qac _ _).trans (QaK 92 key)) ((Qac _ _).trans (QaK 92 key))) (ints_one _ _)) (fun W hp hrw=>hrw) fun W7 p7 r5_7=>?_
   have x7:=Puts.ext p7 x6 b5
   refine QeC <| hK34 _ _ <| wp_ret ?_
   repeat (first | with_reducible refine goR1 ?_ | with_reducible refine goR2 ?_)
   have r4_7:=(Puts.row p7 r4_6 n_4_5)
   exact (show bodyPost _ _ _ .ret _ _ from ret2 (.agg (ints .u8 (padX 54 key))) (.agg (ints .u8 (padX 92 key))) rfl (QaZ g4 98 _ r4_7 kj kj (isz (n:=64) kj ((Qac _ _).trans (QaK 54 key)))) (QaZ g5 98 _ r5_7 kj kj (isz (n:=64) kj ((Qac _ _).trans (QaK 92 key)))) ⟨rfl,x7⟩)
end Go.Proofs.YtmljnchhgkfemaaDoor.Sha
end
section
namespace Go.Proofs.YtmljnchhgkfemaaDoor.Sha
open Go Go.RowKit
open Rely Auto Own
theorem tagC (key : List Int) (v:Value) (B:Nat) (gp n:Nat) (Tp:TypeId) (ps:List (Value×List Int)) (hn:ps.length=n) (hn9:n≤1000000) (tc tq:TypeId) (w:World) (hc:w.heap[1]? = some (.cells (ints .u64 Qca) tc)) (hq:w.heap[0]? = some (.cells (ints .u64 Qbj) tq)) (hkb:Qag key) (hkl:key.length≤800000000) (hk:RdK .u8 B key v w) (hrow:w.heap[gp]? = some (.cells (ps.map Prod.fst).toArray Tp)) (hps:∀ p∈ps,RdK .u8 w.heap.size p.2 p.1 w∧Qag p.2) (hlen:((ps.map Prod.snd).flatten).length≤800000000) :
  Calls Tryd.prog 52 #[v,.slice (some ⟨gp,0,none⟩) n n] w (Ret w (.agg (ints .u8 (hmac key ((ps.map Prod.snd).flatten))))):=by
 obtain ⟨a_key,c_key,rfl,-⟩:=id hk
 refine enter 36 [(0,.slice a_key key.length c_key),(1,.slice (some ⟨gp,0,none⟩) n n)] Tryd.func52 rfl rfl kj rfl <| sgC fun K4 hK4=>Qaj (ints .u8 (List.replicate 32 0)) 61 4 rfl kj kj fun g5 W1 l5 e1 r5_1=>?_
 have x1:=Ext.tr (Rely.Ext.refl w) e1
 refine sgN hK4 <| sgC fun K6 hK6=>sg 1 kj ?_
 have r1_1:=(Qaa hc e1)
 have r2_1:=(Qaa hq e1)
 refine Qao (.tuple #[.agg (ints .u8 (padX 54 key)),.agg (ints .u8 (padX 92 key))]) 72 #[.slice a_key key.length c_key] 13 rfl kj kj (Qq8 key _ B tc tq _ r1_1 r2_1 hkb (by omega) (RdK.ext hk x1)) fun W2 e2=>?_
 have x2:=Ext.tr x1 e2
 refine sg 3 kj <| Qaj (ints .u8 (List.replicate 64 0)) 98 5 rfl kj kj fun g7 W3 l7 e3 r7_3=>?_
 have x3:=Ext.tr x2 e3
 refine Qaj (ints .u8 (List.replicate 64 0)) 98 6 rfl kj kj fun g8 W4 l8 e4 r8_4=>?_
 have r7_4:=(Qaa r7_3 e4)
 refine Qah g7 _ (ints .u8 (padX 54 key)) 98 r7_4 rfl kj (Qaf 98 _ _ g7 98 _ _ r7_4 rfl kj kj (isz (n:=64) kj ((Qac _ _).trans (QaK 54 key))) (eqsz (n:=64) ((Qac _ _).trans (qZ (n:=64))) ((Qac _ _).trans (QaK 54 key))) (ints_one _ _)) fun W5 p5 r7_5=>?_
 have r8_5:=(Puts.row p5 r8_4 (Qav r7_3 l8))
 refine Qah g8 _ (ints .u8 (padX 92 key)) 98 r8_5 rfl kj (Qaf 98 _ _ g8 98 _ _ r8_5 rfl kj kj (isz (n:=64) kj ((Qac _ _).trans (QaK 92 key))) (eqsz (n:=64) ((Qac _ _).trans (qZ (n:=64))) ((Qac _ _).trans (QaK 92 key))) (ints_one _ _)) fun W6 p6 r8_6=>?_
 have x6:=Puts.ext p6 (Puts.ext p5 (Ext.tr x3 e4) (qT x2.size l7)) (qT x3.size l8)
 refine sgN hK6 <| sgC fun K9 hK9=>?_
 have r2_2:=(Qaa r2_1 e2)
 have r2_3:=(Qaa r2_2 e3)
 have r2_6:=(Puts.row p6 (Puts.row p5 (Qaa r2_3 e4) (Qab r2_2 l7)) (Qab r2_3 l8))
 refine QaA (fun v W'=>(fun v W=>∃ g,v=.pointer (some ⟨g,0,none⟩)∧W6.heap.size≤g∧HasD g [] W) v W'∧Ext W6 W') 48 #[] 16 rfl kj kj ((newC tq _ r2_6).mono (by rintro e w' ⟨v,rfl,e1,hv⟩; exact ⟨v,rfl,hv,e1⟩)) fun vv10 W7 hh10=>?_
 obtain ⟨hv10,e7⟩:=hh10
 obtain ⟨gd11,rfl,ld11,hD11⟩:=hv10
 have b11:=qT x6.size ld11
 refine sg 1 kj <| sgN hK9 <| sgC fun K12 hK12=>sg 2 kj ?_
 have r1_2:=(Qaa r1_1 e2)
 have r1_3:=(Qaa r1_2 e3)
 have r1_6:=(Puts.row p6 (Puts.row p5 (Qaa r1_3 e4) (Qab r1_2 l7)) (Qab r1_3 l8))
 have r1_7:=(Qaa r1_6 e7)
 have r7_6:=(Puts.row p6 r7_5 (Qab r7_3 l8))
 have r7_7:=(Qaa r7_6 e7)
 refine QaA (fun v W'=>v=.tuple #[]∧ExtB gd11 W7 W'∧HasD gd11 (padX 54 key) W') 49 #[.pointer (some ⟨gd11,0,none⟩),.slice (some ⟨g7,0,none⟩) 64 64] 19 rfl kj kj ((addC gd11 _ [] (padX 54 key) (.slice (some ⟨g7,0,none⟩) 64 64) tc _ r1_7 (Nat.ne_of_lt (qL (Qa4 hc) b11)) (.inr (fun e=>(Qab r7_6 ld11) (Option.some.inj e))) (Qg6 _ _) (by rw [QaK]; decide) (hD11) (QbB (xs:=padX 54 key) (n:=64) (QaK 54 key) r7_7 (Qa4 r7_7) (show 64≤maxLen from by decide))).mono fun e w' h=>⟨_,h.1,rfl,h.2⟩) fun v W8 h=>?_
 obtain ⟨rfl,q8,hDp⟩:=h
 refine sgN hK12 <| wp_seq_k fun K13 hK13=>sgB kj <| wp_block <| QaN (fun (s1:Nat)=>[(20,.slice (some ⟨gp,0,none⟩) n n),(21,.int .i64 ((n:Nat):Int)),(22,.int .i64 ((s1:Nat):Int)),(7,.pointer (some ⟨gd11,0,none⟩)),(4,.pointer (some ⟨g5,0,none⟩)),(6,.pointer (some ⟨g8,0,none⟩))]) (fun (s1:Nat) W=>(s1≤n)∧(HasD gd11 (padX 54 key++flat ps s1) W)∧(Qau [gd11] W8 W)∧(Ext w W)) (fun (s1:Nat)=>n-s1) 0 ⟨kj,kj,kj,kj,kj,kj,trivial⟩ ⟨(Nat.zero_le _),(show HasD _ (padX 54 key++flat ps 0) _ from (List.append_nil (padX 54 key)).symm▸hDp),(Qau.refl [gd11] W8),(ExtB.up (Ext.tr x6 e7) q8 b11)⟩ fun s1 X1 V1 hI1=>?_
 obtain ⟨i,hs1⟩:∃ z,z=s1:=⟨_,rfl⟩
 subst hs1
 obtain ⟨hi,hDi,kk1,xx1⟩:=hI1
 replace hi:i≤n:=hi
 replace hDi:HasD gd11 (padX 54 key++flat ps i) V1:=hDi
 replace kk1:Qau [gd11] W8 V1:=kk1
 replace xx1:Ext w V1:=xx1
 have q9:=kk1
 refine sgB kj <| wp_seq_k fun K16 hK16=>Qa9 (t:=decide (((i:Nat):Int)<((n:Nat):Int))) kj (fun c17=>?_) (fun c17=>?_)
 ·skip
  have hlt23:i<n:=by have:=of_decide_eq_true c17; omega
  refine wp_skip <| hK16 _ _ <| wp_seq_k fun K18 hK18=>wp_block <| sgC fun K19 hK19=>?_
  have hi2:i<ps.length:=by omega
  refine Qad (.pointer (some ⟨gp,i,none⟩)) 24 rfl kj (QbE 87 _ _ .i64 i gp n n 24 rfl kj kj kj kj hlt23) ?_
  have r3_2:=(Qaa (Qaa hrow e1) e2)
  have r3_3:=(Qaa r3_2 e3)
  have r3_6:=(Puts.row p6 (Puts.row p5 (Qaa r3_3 e4) (Qab r3_2 l7)) (Qab r3_3 l8))
  refine Qad ((pat ps i).1) 25 rfl kj (Qb1 24 _ _ ((pat ps i).1) (QaI (Qau.row q9 (ExtB.row q8 (Qaa r3_6 e7) (Qab r3_6 ld11)) (Qba (Qab r3_6 ld11) Qbm)) (QnO hi2)) rfl kj kj) <| sg 1 kj <| sgN hK19 <| Qan <| sg 2 kj ?_
  have r1_8:=(ExtB.row q8 r1_7 (Qab r1_6 ld11))
  have r1_9:=(Qau.row q9 r1_8 (Qba (Qab r1_6 ld11) Qbm))
  have hp6:=(hps _ (Qhg hi2)).1.ext xx1
  have hl6:=QlV hi2
  refine QaA (fun v W'=>v=.tuple #[]∧ExtB gd11 V1 W'∧HasD gd11 ((padX 54 key++flat ps i)++(pat ps i).2) W') 49 #[.pointer (some ⟨gd11,0,none⟩),(pat ps i).1] 28 rfl kj kj ((addC gd11 _ _ _ _ tc _ r1_9 (Nat.ne_of_lt (qL (Qa4 hc) b11)) (hp6.nb b11) (hps _ (Qhg hi2)).2 (by rw [List.length_append,QaK]; omega) hDi hp6).mono fun e w' h=>⟨_,h.1,rfl,h.2⟩) fun v W10 h=>?_
  obtain ⟨rfl,q10,hDn⟩:=h
  have x10:=ExtB.up xx1 q10 b11
  refine Qaz <| hK18 _ _ <| Qan <| Qad (.int .i64 ((i+1:Nat):Int)) 29 rfl kj (Qal (u:=.int .i64 (IntKind.i64.wrap (((i:Nat):Int)+1))) kj (congrArg (Value.int .i64) (i64n _ _ (by omega) (by omega)))) <| sg 1 kj <| Qaz ?_
  repeat (first | with_reducible refine goX1 ?_ | with_reducible refine goX2 ?_ | with_reducible refine goX3 ?_)
  exact QaG (i+1) ⟨kj,kj,kj,kj,kj,kj,trivial⟩ ⟨(by omega),(by rw [Qgh hi2,←List.append_assoc]; exact hDn),(Qau.but q9 q10 (.inl (by simp))),x10⟩ (by omega)
 ·skip
  have heq23:i=n:=by have:=of_decide_eq_false c17; omega
  refine wp_exit <| hK13 _ _ <| sgC fun K20 hK20=>sg 1 kj ?_
  have r1_8:=(ExtB.row q8 r1_7 (Qab r1_6 ld11))
  have r1_9:=(Qau.row q9 r1_8 (Qba (Qab r1_6 ld11) Qbm))
  refine Qao (.agg (ints .u8 (dig (padX 54 key++flat ps i)))) 50 #[.pointer (some ⟨gd11,0,none⟩)] 31 rfl kj kj (sumC gd11 _ tc _ r1_9 (by rw [heq23,QeN hn,List.length_append,QaK]; omega) hDi) fun W10 e10=>?_
  have x10:=Ext.tr xx1 e10
  refine Qaj (ints .u8 (List.replicate 32 0)) 61 10 rfl kj kj fun g21 W11 l21 e11 r21_11=>Qah g21 _ (ints .u8 (dig (padX 54 key++flat ps i))) 61 r21_11 rfl kj (Qaf 61 _ _ g21 61 _ _ r21_11 rfl kj kj (isz (n:=32) kj ((Qac _ _).trans (Qbz _))) (eqsz (n:=32) ((Qac _ _).trans (qZ (n:=32))) ((Qac _ _).trans (Qbz _))) (ints_one _ _)) fun W12 p12 r21_12=>sgN hK20 <| wp_seq_k fun K22 hK22=>Qbf 2 [⟨none,[(6,none)]⟩,⟨none,[(10,none)]⟩] kj kj fun F hF=>QaL (Qaq _) (.slice (some ⟨g8,0,none⟩) 64 64) kj kj (fun W=>by kernel_rfl) <| QaL (Qaq _) (.slice (some ⟨g21,0,none⟩) 32 32) kj kj (fun W=>by kernel_rfl) <| QdN (hF _ fun W13 e13=>?_)
  simp only [List.nil_append,List.cons_append,List.take_succ_cons,List.take_zero,List.drop_succ_cons,List.drop_zero,finE,up]
  clear hF
  have x13:=Ext.tr (Puts.ext p12 (Ext.tr x10 e11) (qT x10.size l21)) e13
  refine Qbw (#[.slice (some ⟨g8,0,none⟩) 64 64,.slice (some ⟨g21,0,none⟩) 32 32]) 24 2 34 rfl kj kj fun g23 W14 l23 e14 r23_14=>?_
  have b23:=qT x13.size l23
  have r8_10:=(Qaa (Qau.row q9 (ExtB.row q8 (Qaa r8_6 e7) (Qab r8_6 ld11)) (Qba (Qab r8_6 ld11) Qbm)) e10)
  have r8_14:=(Qaa (Qaa (Puts.row p12 (Qaa r8_10 e11) (Qab r8_10 l21)) e13) e14)
  have r21_14:=(Qaa (Qaa r21_12 e13) e14)
  have r1_10:=(Qaa r1_9 e10)
  have r2_10:=(Qaa (Qau.row q9 (ExtB.row q8 (Qaa r2_6 e7) (Qab r2_6 ld11)) (Qba (Qab r2_6 ld11) Qbm)) e10)
  have hps24:∀ p∈([(.slice (some ⟨g8,0,none⟩) 64 64,padX 92 key),(.slice (some ⟨g21,0,none⟩) 32 32,dig (padX 54 key++flat ps i))]:List (Value×List Int)),RdK .u8 W14.heap.size p.2 p.1 W14∧Qag p.2:=by
   intro p hp
   simp only [List.mem_cons,List.not_mem_nil,or_false] at hp
   rcases hp with rfl | rfl
   ·exact ⟨RdK.here (QbB (xs:=padX 92 key) (n:=64) (QaK 92 key) r8_14 (Qa4 r8_14) (show 64≤maxLen from by decide)),(Qg6 _ _)⟩
   ·exact ⟨RdK.here (QbB (xs:=dig (padX 54 key++flat ps i)) (n:=32) (Qbz _) r21_14 (Qa4 r21_14) (show 32≤maxLen from by decide)),(Qgj _)⟩
  have hsh24:=QkW g23 2 _ ([(.slice (some ⟨g8,0,none⟩) 64 64,padX 92 key),(.slice (some ⟨g21,0,none⟩) 32 32,dig (padX 54 key++flat ps i))]:List (Value×List Int)) rfl (by decide) tc tq W14 (Qaa (Qaa (Puts.row p12 (Qaa r1_10 e11) (Qab r1_10 l21)) e13) e14) (Qaa (Qaa (Puts.row p12 (Qaa r2_10 e11) (Qab r2_10 l21)) e13) e14) r23_14 hps24 (by simp only [List.map_cons,List.map_nil,List.flatten_cons,List.flatten_nil,List.append_nil,List.length_append,(Qbz _),(QaK 92 key)]; omega)
  rw [show ((List.map Prod.snd ([(.slice (some ⟨g8,0,none⟩) 64 64,padX 92 key),(.slice (some ⟨g21,0,none⟩) 32 32,dig (padX 54 key++flat ps i))]:List (Value×List Int))).flatten)=(padX 92 key)++(dig (padX 54 key++flat ps i)) by simp only [List.map_cons,List.map_nil,List.flatten_cons,List.flatten_nil,List.append_nil]] at hsh24
  refine Qao (.agg (ints .u8 (dig ((padX 92 key)++(dig (padX 54 key++flat ps i)))))) 27 #[.slice (some ⟨g23,0,none⟩) 2 2] 35 rfl kj kj hsh24 fun W15 e15=>?_
  have r5_2:=(Qaa r5_1 e2)
  have r5_3:=(Qaa r5_2 e3)
  have r5_6:=(Puts.row p6 (Puts.row p5 (Qaa r5_3 e4) (Qab r5_2 l7)) (Qab r5_3 l8))
  have r5_10:=(Qaa (Qau.row q9 (ExtB.row q8 (Qaa r5_6 e7) (Qab r5_6 ld11)) (Qba (Qab r5_6 ld11) Qbm)) e10)
  have r5_15:=(Qaa (Qaa (Qaa (Puts.row p12 (Qaa r5_10 e11) (Qab r5_10 l21)) e13) e14) e15)
  refine Qah g5 _ (ints .u8 (dig ((padX 92 key)++(dig (padX 54 key++flat ps i))))) 61 r5_15 rfl kj (Qaf 61 _ _ g5 61 _ _ r5_15 rfl kj kj (isz (n:=32) kj ((Qac _ _).trans (Qbz _))) (eqsz (n:=32) ((Qac _ _).trans (qZ (n:=32))) ((Qac _ _).trans (Qbz _))) (ints_one _ _)) fun W16 p16 r5_16=>sgN hK22 <| wp_ret ?_
  repeat (first | with_reducible refine goR1 ?_ | with_reducible refine goR2 ?_)
  exact (show bodyPost _ _ _ .ret _ _ from ret1 (.agg (ints .u8 (dig ((padX 92 key)++(dig (padX 54 key++flat ps i)))))) rfl (QaZ g5 61 _ r5_16 kj kj (isz (n:=32) kj ((Qac _ _).trans (Qbz _)))) ⟨by unfold hmac; rw [heq23,QeN hn],(Puts.ext p16 (Ext.tr (Ext.tr x13 e14) e15) (qT (Rely.Ext.refl w).size l5))⟩)
end Go.Proofs.YtmljnchhgkfemaaDoor.Sha
end
section
namespace Go.Proofs.YtmljnchhgkfemaaDoor.Auto
open Go Go.RowKit
open Rely Own
section
variable {P : Program} {w : World} {k kn : IntKind} {T : TypeId} {t tn ty : TypeId}
end
end Go.Proofs.YtmljnchhgkfemaaDoor.Auto
end
section
namespace Go.Proofs.YtmljnchhgkfemaaDoor.Sha
open Go Go.RowKit
open Rely Auto Own
theorem bytes_app {a b:List Int} (ha:Qag a) (hb:Qag b):Qag (a++b):=fun x hx=>by
  rcases List.mem_append.1 hx with h | h
  · exact ha x h
  · exact hb x h
section
variable {ds : List Deferred} {P : Program} {ops : Array Oper} {Q : Exit → Act → World → Prop} {rest : List Oper} {o : Oper} {N : Nat} {L : Env} {W : World}
end
end Go.Proofs.YtmljnchhgkfemaaDoor.Sha
end
section
namespace Go.Proofs.YtmljnchhgkfemaaDoor.Sha
open Go Go.RowKit
open Rely Auto Own
def tg (key info:List Int):Nat→List Int
  | 0=>[]
  | i+1=>hmac key ((tg key info i++info)++[((i+1:Nat):Int)])
def okm (key info:List Int):Nat→List Int
  | 0=>[]
  | k+1=>okm key info k++tg key info (k+1)
theorem Qqr (key info:List Int) (i:Nat):(tg key info i).length≤32:=by
  cases i with
  | zero=>exact Nat.zero_le _
  | succ i=>exact qE (QbX _ _)
theorem Qm6 (key info:List Int) (i:Nat):Qag (tg key info i):=by
  cases i with
  | zero=>intro x hx; cases hx
  | succ i=>exact QgH _ _
theorem QiQ (key info:List Int) (k:Nat):(okm key info k).length=32*k:=by
  induction k with
  | zero=>rfl
  | succ k ih=>rw [okm,List.length_append,ih,tg,QbX]; omega
theorem u8_n (k : Nat) (h:k+1≤255):IntKind.u8.wrap ((k+1:Nat):Int)=((k+1:Nat):Int):=by rw [QoX]; omega
end Go.Proofs.YtmljnchhgkfemaaDoor.Sha
end
section
namespace Go.Proofs.YtmljnchhgkfemaaDoor.Sha
open Go Go.RowKit
open Rely Auto Own
theorem Qkd (m : Nat) (gs:List Nat) (g1 g2 B:Nat) (key info:List Int) (a_key a_info:Option Addr) (c_key c_info:Nat) (tc tq:TypeId) (w:World) (hkl:key.length≤800000000) (hil:info.length≤700000000) (hkb:Qag key) (hib:Qag info)
  (hBw:B≤w.heap.size) (hgs:∀ c∈gs,B≤c) (hgl:∀ c∈gs,c<w.heap.size) (hkw:RdK .u8 B key (.slice a_key key.length c_key) w) (hiw:RdK .u8 B info (.slice a_info info.length c_info) w)
  (hcw:w.heap[1]? = some (.cells (ints .u64 Qca) tc)) (hqw:w.heap[0]? = some (.cells (ints .u64 Qbj) tq)) (r1w:w.heap[g1]? = some (.cells #[.slice a_key key.length c_key] 24)) (r2w:w.heap[g2]? = some (.cells #[.slice a_info info.length c_info] 24)) (n1:g1∉gs) (n2:g2∉gs) (nc:1∉gs) (nq:0∉gs) :
  SeqStopsK Fence.wide m Tryd.prog 83 #[.pointer (some ⟨g1,0,none⟩),.pointer (some ⟨g2,0,none⟩)] (fun i:Nat=>#[Value.agg (ints .u8 (tg key info (i+1)))]) (QbS gs) (fun ys=>ys=List.range 255) (fun ys=>∃ k,ys=List.range k∧k≤255) 256 w:=fun l J Jx Wi hW hJ hJx hY h0=>by
 refine callsIn_wide.2 ?_
 have hwi:=hW.size
 have hBi:B≤Wi.heap.size:=qT hBw hwi
 have hk:=hkw.ext hW
 have hi:=hiw.ext hW
 have hc:=Qaa hcw hW
 have hq:=Qaa hqw hW
 refine enter 24 [(0,.func (.yield l) #[] #[]),(1,.pointer (some ⟨g1,0,none⟩)),(2,.pointer (some ⟨g2,0,none⟩))] Tryd.func83 rfl rfl kj rfl <| sgB kj <| sgB kj <| wp_block <| QaN (fun (s1:Nat×Value)=>[(0,.func (.yield l) #[] #[]),(1,.pointer (some ⟨g1,0,none⟩)),(2,.pointer (some ⟨g2,0,none⟩)),(4,s1.2),(5,.int .i64 ((s1.1+1:Nat):Int))]) (fun (s1:Nat×Value) W=>(s1.1≤255)∧(J (List.range s1.1) W)∧(W.heap[g1]? = some (.cells #[.slice a_key key.length c_key] 24))∧(W.heap[g2]? = some (.cells #[.slice a_info info.length c_info] 24))∧(W.heap[1]? = some (.cells (ints .u64 Qca) tc))∧(W.heap[0]? = some (.cells (ints .u64 Qbj) tq))∧(RdK .u8 B key (.slice a_key key.length c_key) W)∧(RdK .u8 B info (.slice a_info info.length c_info) W)∧(OwnN .u8 61 Wi.heap.size (tg key info s1.1) s1.2 W)∧(Grew Wi W)) (fun (s1:Nat×Value)=>255-s1.1) (0,(.slice none 0 0)) ⟨kj,kj,kj,kj,kj,trivial⟩ ⟨(by decide),(show J (List.range 0) _ from h0),(Qaa r1w hW),(Qaa r2w hW),hc,hq,hk,hi,(QmR _ _ _ _),(Grew.refl Wi)⟩ fun s1 X1 V1 hI1=>?_
 obtain ⟨k,v⟩:=s1
 obtain ⟨hkl_,hJ1,rr1,rr2,rrc,rrq,hk1,hi1,hv,xx1⟩:=hI1
 replace hkl_:k≤255:=hkl_
 replace hJ1:J (List.range k) V1:=hJ1
 replace rr1:V1.heap[g1]? = some (.cells #[.slice a_key key.length c_key] 24):=rr1
 replace rr2:V1.heap[g2]? = some (.cells #[.slice a_info info.length c_info] 24):=rr2
 replace rrc:V1.heap[1]? = some (.cells (ints .u64 Qca) tc):=rrc
 replace rrq:V1.heap[0]? = some (.cells (ints .u64 Qbj) tq):=rrq
 replace hk1:RdK .u8 B key (.slice a_key key.length c_key) V1:=hk1
 replace hi1:RdK .u8 B info (.slice a_info info.length c_info) V1:=hi1
 replace hv:OwnN .u8 61 Wi.heap.size (tg key info k) v V1:=hv
 replace xx1:Grew Wi V1:=xx1
 obtain ⟨a4,c4,rfl,-⟩:=id (OwnN.rd hv)
 refine wp_seq_k fun K7 hK7=>sgB kj <| Qa9 (t:=decide (((k+1:Nat):Int)≤255)) kj (fun c9=>?_) (fun c9=>?_)
 ·skip
  have hlt:k+1≤255:=by have:=of_decide_eq_true c9; omega
  have htl:=Qqr key info k
  have hl1:[((k+1:Nat):Int)].length=1:=rfl
  refine wp_skip <| hK7 _ _ <| wp_seq_k fun K10 hK10=>wp_block <| sgC fun K11 hK11=>Qad (.slice a_key key.length c_key) 11 rfl kj (Qak 24 _ g1 0 24 _ (.slice a_key key.length c_key) _ rr1 rfl kj kj kj) <| sg 1 kj <| Qad (.slice a_info info.length c_info) 13 rfl kj (Qak 24 _ g2 0 24 _ (.slice a_info info.length c_info) _ rr2 rfl kj kj kj) <| sg 1 kj <| Qad (.int .u8 (((k+1:Nat):Int))) 15 rfl kj (Qal (u:=.int .u8 (IntKind.u8.wrap ((k+1:Nat):Int))) kj (congrArg (Value.int .u8) (u8_n _ (by omega)))) ?_
  refine Qbw (ints .u8 ([(((k+1:Nat):Int))])) 5 1 16 rfl kj kj fun g12 W2 l12 e2 r12_2=>?_
  have x2:=Grew.ext xx1 e2
  have b12:=qT xx1.size l12
  refine Qbw (#[.slice a4 ((tg key info k).length) c4,.slice a_info info.length c_info,.slice (some ⟨g12,0,none⟩) 1 1]) 24 3 17 rfl kj kj fun g13 W3 l13 e3 r13_3=>?_
  have b13:=qT x2.size l13
  have f16_3:=((hk1.ext e2).ext e3)
  have f20_3:=((hi1.ext e2).ext e3)
  have r12_3:=(Qaa r12_2 e3)
  have r1_3:=(Qaa (Qaa rrc e2) e3)
  have r2_3:=(Qaa (Qaa rrq e2) e3)
  have hps14:∀ p∈([(.slice a4 ((tg key info k).length) c4,tg key info k),(.slice a_info info.length c_info,info),(.slice (some ⟨g12,0,none⟩) 1 1,[(((k+1:Nat):Int))])]:List (Value×List Int)),RdK .u8 W3.heap.size p.2 p.1 W3∧Qag p.2:=by
   intro p hp
   simp only [List.mem_cons,List.not_mem_nil,or_false] at hp
   rcases hp with rfl | rfl | rfl
   ·exact ⟨RdK.here (OwnN.rd ((hv.ext e2).ext e3)),(Qm6 _ _ _)⟩
   ·exact ⟨RdK.here f20_3,hib⟩
   ·exact ⟨RdK.here (QbB (xs:=[(((k+1:Nat):Int))]) (n:=1) rfl r12_3 (Qa4 r12_3) (show 1≤maxLen from by decide)),(fun x hx=>by rw [List.mem_singleton] at hx; subst hx; omega)⟩
  have htg14:=tagC (key) (.slice a_key key.length c_key) _ g13 3 _ ([(.slice a4 ((tg key info k).length) c4,tg key info k),(.slice a_info info.length c_info,info),(.slice (some ⟨g12,0,none⟩) 1 1,[(((k+1:Nat):Int))])]:List (Value×List Int)) rfl (by decide) tc tq W3 r1_3 r2_3 hkb (by omega) f16_3 r13_3 hps14 (by simp only [List.map_cons,List.map_nil,List.flatten_cons,List.flatten_nil,List.append_nil,List.length_append]; omega)
  rw [show ((List.map Prod.snd ([(.slice a4 ((tg key info k).length) c4,tg key info k),(.slice a_info info.length c_info,info),(.slice (some ⟨g12,0,none⟩) 1 1,[(((k+1:Nat):Int))])]:List (Value×List Int))).flatten)=(tg key info k)++info++([(((k+1:Nat):Int))]) by simp only [List.map_cons,List.map_nil,List.flatten_cons,List.flatten_nil,List.append_nil,List.append_assoc]] at htg14
  refine Qao (.agg (ints .u8 (hmac (key) ((tg key info k)++info++([(((k+1:Nat):Int))]))))) 52 #[.slice a_key key.length c_key,.slice (some ⟨g13,0,none⟩) 3 3] 18 rfl kj kj htg14 fun W4 e4=>?_
  have x4:=Grew.ext (Grew.ext x2 e3) e4
  refine Qaj (ints .u8 (List.replicate 32 0)) 61 6 rfl kj kj fun g21 W5 l21 e5 r21_5=>?_
  have b21:=qT x4.size l21
  refine Qah g21 _ (ints .u8 (hmac (key) ((tg key info k)++info++([(((k+1:Nat):Int))])))) 61 r21_5 rfl kj (Qaf 61 _ _ g21 61 _ _ r21_5 rfl kj kj (isz (n:=32) kj ((Qac _ _).trans (QbX _ _))) (eqsz (n:=32) ((Qac _ _).trans (qZ (n:=32))) ((Qac _ _).trans (QbX _ _))) (ints_one _ _)) fun W6 p6 r21_6=>?_
  have r21_6_22:W6.heap[g21]? = some (.cells (ints .u8 (tg key info (k+1))) 61):=QaC r21_6 rfl
  refine sgN hK11 <| wp_seq_k fun K23 hK23=>wp_seq_k fun K24 hK24=>(wpIn_wide (n:=m)).1 <| Qbs <| QbJ (.func (.yield l) #[] #[]) 19 rfl (Qb3 _ _) rfl kj kj <| QbJ (.agg (ints .u8 (tg key info (k+1)))) 20 rfl (Qb3 _ _) rfl kj (Qae 61 _ g21 61 _ _ r21_6_22 rfl kj kj (isz (n:=32) kj ((Qac _ _).trans (QbX _ _)))) ?_
  have y1_4:=(Rely.Ext.trans (Rely.Ext.trans (Rely.Ext.trans (Rely.Ext.refl V1) e2) e3) e4)
  refine QjC (m:=m) (l:=l) (args:=#[.agg (ints .u8 (tg key info (k+1)))]) 21 rfl rfl kj kj (hY (List.range k) k W6 (QgR hJ hJ1 (Puts.ext p6 (Rely.Ext.trans y1_4 e5) (qT y1_4.size l21))) (by rw [List.length_range]; omega)) (fun W' hA=>?_) (fun W' hA=>?_)
  ·skip
   obtain ⟨W7,hW7⟩:∃ z,z=W':=⟨_,rfl⟩
   rw [←hW7] at hA ⊢
   obtain ⟨hj25,hk25⟩:=hA
   refine QbJ (.bool false) 22 rfl (Qb3 _ _) rfl kj kj <| Qdp <| hK24 _ _ <| cond_false kj <| wp_skip <| hK23 _ _ <| sgA kj <| hK10 _ _ <| Qan <| sg 1 kj ?_
   refine Qad (.int .i64 (((k+1)+1:Nat):Int)) 10 rfl kj (Qal (u:=.int .i64 (IntKind.i64.wrap (((k+1:Nat):Int)+1))) kj (congrArg (Value.int .i64) (i64n _ _ (by omega) (by omega)))) <| sg 1 kj <| Qaz ?_
   have r3_4:=(Qaa (Qaa (Qaa rr1 e2) e3) e4)
   have r4_4:=(Qaa (Qaa (Qaa rr2 e2) e3) e4)
   have r1_4:=(Qaa r1_3 e4)
   have r2_4:=(Qaa r2_3 e4)
   have r21_7:=(QbS.row hk25 r21_6_22 (fun hm=>by have h1:=hgl _ hm; have h2:=b21; omega))
   repeat (first | with_reducible refine goX1 ?_ | with_reducible refine goX2 ?_ | with_reducible refine goX3 ?_)
   exact QaG ((k+1),.slice (some ⟨g21,0,none⟩) 32 32) ⟨kj,kj,kj,kj,kj,trivial⟩ ⟨(by omega),(by rw [List.range_succ]; exact hj25),(QbS.row hk25 (Puts.row p6 (Qaa r3_4 e5) (Qab r3_4 l21)) n1),(QbS.row hk25 (Puts.row p6 (Qaa r4_4 e5) (Qab r4_4 l21)) n2),(QbS.row hk25 (Puts.row p6 (Qaa r1_4 e5) (Qab r1_4 l21)) nc),(QbS.row hk25 (Puts.row p6 (Qaa r2_4 e5) (Qab r2_4 l21)) nq),(RdK.keepC (((f16_3.ext e4).ext e5).puts p6 (qT hBi b21)) hk25 hgs),(RdK.keepC (((f20_3.ext e4).ext e5).puts p6 (qT hBi b21)) hk25 hgs),(Qdy (xs:=tg key info (k+1)) (QbX _ _) b21 r21_7 (by decide)),(Grew.keepC (Grew.puts (Grew.ext x4 e5) p6) hk25)⟩ (by show 255-(k+1)<255-k; omega)
  ·skip
   obtain ⟨W7,hW7⟩:∃ z,z=W':=⟨_,rfl⟩
   rw [←hW7] at hA ⊢
   refine QbJ (.bool true) 22 rfl (Qb3 _ _) rfl kj kj <| Qdp <| hK24 _ _ <| cond_true kj <| wp_ret ?_
   repeat (first | with_reducible refine goR1 ?_ | with_reducible refine goR2 ?_)
   exact (show bodyPost _ _ _ .ret _ _ from ret0 rfl ⟨⟨_,rfl⟩,.inr ⟨_,⟨k+1,List.range_succ.symm,hlt⟩,hA⟩⟩)
 ·skip
  have hke:k=255:=by have:=of_decide_eq_false c9; omega
  refine wp_exit ?_
  repeat (first | with_reducible refine goX1 ?_ | with_reducible refine goX2 ?_ | with_reducible refine goX3 ?_)
  exact (show bodyPost _ _ _ .normal _ _ from end0 rfl ⟨⟨_,rfl⟩,.inl ⟨_,congrArg List.range hke,hJ1⟩⟩)
end Go.Proofs.YtmljnchhgkfemaaDoor.Sha
end
section
namespace Go.Proofs.YtmljnchhgkfemaaDoor.Sha
open Go Go.RowKit
open Rely Auto Own
theorem Qle {P : Program} {ρ:Operand→Value} {o:Oper} {W:World} {k:IntKind} {e:TypeId} (x y:Operand) (tx ty:TypeId) (ho:o.op=.call { callee:=.builtin .copy,args:=#[x,y],argTypes:=#[tx,ty] }) (hu:P.underlying tx=some (.slice e)) (hsz:(P.info? e).map (·.size)=some 1)
    {g off dl dc n B:Nat} {xs z:List Int} {v:Value} {T:TypeId} (hx:ρ x=.slice (some ⟨g,off,none⟩) dl dc) (hy:ρ y=v) (hr:RdK k B z v W)
    (hg:W.heap[g]? = some (.cells (ints k xs) T)) (hq:off+dl≤xs.length) (hn:n=min z.length dl) :
    ∃ W':World,(execOp ρ o).run P W=.ok (.value (.int .i64 ((n:Nat):Int))) W'∧Puts W g W'∧W'.heap[g]? = some (.cells (ints k (xs.take off++z.take n++xs.drop (off+n))) T):=by
  obtain ⟨a,cap,rfl,y2,y3,y4,y5⟩:=hr
  have hgo:∀ W',(Builtin.copy_ #[tx,ty] o.type #[.slice (some ⟨g,off,none⟩) dl dc,.slice a z.length cap]).run P W=.ok (goInt n) W'→(execOp ρ o).run P W=.ok (.value (.int .i64 ((n:Nat):Int))) W':=fun W' h=>by
    unfold execOp
    simp only [ho,resolve,invoke,builtin,Sem.run_bind,Sem.run_pure,Result.andThen_ok,List.map_toArray,List.map_cons,List.map_nil,hx,hy,h,goInt]
  rcases Nat.eq_zero_or_pos n with h0 | h0
  · refine ⟨W,hgo W ?_,⟨rfl,rfl,rfl,rfl,fun _ _=>rfl⟩,?_⟩
    · rw [h0]; exact run_copy_none W tx ty o.type e _ _ _ _ _ _ hu hsz (hn.symm.trans h0)
    · rw [h0,List.take_zero,List.append_nil,Nat.add_zero,List.take_append_drop]; exact hg
  · obtain ⟨gz,oz,rfl,z2,z3,z4⟩:=y5.resolve_left (fun e=>by rw [e] at hn; simp at hn; omega)
    have hlen:((z.take n).map (Value.int k)).length=n:=by simp; omega
    have h:=run_copy_row (P:=P) W tx ty o.type e g off dl dc ⟨gz,oz,none⟩ z.length cap (ints k xs) T ((z.take n).map (Value.int k)) hu hsz hg (by rw [hlen]; exact hn)
      (Qif (k:=k) (ys:=z.take n) fun i hi=>by
        rw [List.length_take] at hi
        rw [z4 i (by omega)]
        simp [nth,show i<n by omega]) (by rw [hlen,Qac]; omega) (Qks k _)
    rw [hlen] at h
    have e1:((ints k xs).toList.take off++(z.take n).map (Value.int k)++(ints k xs).toList.drop (off+n)).toArray=ints k (xs.take off++z.take n++xs.drop (off+n)):=by
      apply Array.ext'
      show (xs.map (Value.int k)).take off++(z.take n).map (Value.int k)++(xs.map (Value.int k)).drop (off+n)=(xs.take off++z.take n++xs.drop (off+n)).map (Value.int k)
      simp only [List.map_append,List.map_take,List.map_drop]
    rw [e1] at h
    exact ⟨_,hgo _ h,Qb6 _ _ _,setRow_heap _ _ _ _ _ _ hg⟩
theorem QhP {P : Program} {ρ:Operand→Value} {o:Oper} {W:World} {k:IntKind} {e:TypeId} (x y:Operand) (tx ty:TypeId) (ho:o.op=.call { callee:=.builtin .copy,args:=#[x,y],argTypes:=#[tx,ty] }) (hu:P.underlying tx=some (.slice e)) (hsz:(P.info? e).map (·.size)=some 1)
    {g off dl dc n B:Nat} {xs ys z:List Int} {v:Value} {T:TypeId} (hx:ρ x=.slice (some ⟨g,off,none⟩) dl dc) (hy:ρ y=v) (hr:RdK k B z v W)
    (hg:W.heap[g]? = some (.cells (ints k xs) T)) (hq:off+dl≤xs.length) (hn:n=min z.length dl) (hY:xs.take off++z.take n++xs.drop (off+n)=ys) :
    ∃ W':World,(execOp ρ o).run P W=.ok (.value (.int .i64 ((n:Nat):Int))) W'∧Puts W g W'∧W'.heap[g]? = some (.cells (ints k ys) T):=hY▸Qle x y tx ty ho hu hsz hx hy hr hg hq hn
theorem Qj0 {P : Program} {ρ:Operand→Value} {o:Oper} {W:World} {g:Nat} {X Y:Obj} {v:Value} (h:∃ W':World,(execOp ρ o).run P W=.ok (.value v) W'∧Puts W g W'∧W'.heap[g]? = some Y) :
    ∃ u W',(execOp ρ o).run P W=.ok (.value u) W'∧QdB g X Y W W'∧(u=v∧W'.heap[g]? = some Y):=by
  obtain ⟨W',e1,p1,r1⟩:=h
  exact ⟨_,W',e1,⟨ExtB.puts (ExtB.refl _ _) p1,.inr r1⟩,rfl,r1⟩
theorem Qkm {P : Program} {ρ:Operand→Value} {o:Oper} {w:World} (t:TypeId) (x z:Operand) (l g len cap:Nat) (e:TypeId) (ho:o.op=.slice t x (some z) none none) (hx:ρ x=.slice (some ⟨g,0,none⟩) len cap)
    (hu:P.underlying t=some (.slice e)) (hs:(P.info? e).map (·.size)=some 1) (kz:IntKind) (hz:ρ z=.int kz (l:Int)) (h1:l≤len) (h2:len≤cap) :
    (execOp ρ o).run P w=.ok (.value (.slice (some ⟨g,(if cap=l then 0 else l),none⟩) (len-l) (cap-l))) w:=by
  cases hq:P.info? e with
  | none=>simp [hq] at hs
  | some i =>
    have hs':i.size=1:=by simpa [hq] using hs
    unfold execOp
    simp [ho,hx,hz,Instr.sliceAt,Instr.slice,Instr.sliceBounds,run_sliceBound,run_underlying hu,sizeOf,typeInfo,hq,hs',h1,h2]
    split
    · simp [Addr.add]
    · simp [Addr.add]
      exact fun h=>h.symm
theorem goXo {K : Act→World→Prop} {Q:Exit→Act→World→Prop} {a:Act} {w:World} {n m:Nat} (h:n≠m) (k:Q (.exit n) a w):Exit.inBlock m Q (.exit n) a w:=by
  unfold Exit.inBlock
  simp [h]
  exact k
theorem Qiq {W W':World} {g:Nat} {cs:Array Value} {t:TypeId} (h:ExtB g W W') (r:W.heap[g]? = some (.cells cs t)):KeepsOthers W W' :=
  ⟨h.2.2.2.1,fun k o hk ho=>by
    by_cases e:k=g
    · subst e
      rw [r] at hk
      cases hk
      cases ho
    · exact (h.2.2.2.2 k (Qa4 hk) e).trans hk⟩
theorem QlI {gs : List Nat} {A B:World} {g:Nat} (h:ExtB g A B) (hm:g∈gs):QbS gs A B:=⟨h.2.2.2.1,fun k cs t fr q n=>(h.2.2.2.2 k (Qa4 q) (fun e=>n (e▸hm))).trans q⟩
theorem Qk3 {gs : List Nat} {A B:World} {g:Nat} (h:Puts A g B) (hm:g∈gs):QbS gs A B:=⟨qE h.2.2.2.1.symm,fun k cs t fr q n=>(h.2.2.2.2 k (fun e=>n (e▸hm))).trans q⟩
def okL (key info:List Int) (pre:List Nat):List Int:=(pre.map fun x=>tg key info (x+1)).flatten
def FF (key info:List Int) (n:Nat) (pre:List Nat):List Int:=(okL key info pre).take n++List.replicate (n-32*pre.length) 0
theorem QiR (key info:List Int):∀ pre,(okL key info pre).length=32*pre.length
  | []=>rfl
  | x::l=>by
    have:=QiR key info l
    unfold okL at this ⊢
    rw [List.map_cons,List.flatten_cons,List.length_append,this,tg,QbX,List.length_cons]; omega
theorem Qj3 (key info:List Int) (pre:List Nat) (x:Nat):okL key info (pre++[x])=okL key info pre++tg key info (x+1):=by simp [okL]
theorem Qic (key info:List Int):∀ k,okL key info (List.range k)=okm key info k
  | 0=>rfl
  | k+1=>by rw [List.range_succ,Qj3,Qic key info k,okm]
theorem Qm0 (key info:List Int) (n:Nat) (pre:List Nat):(FF key info n pre).length=n:=by
  unfold FF
  rw [List.length_append,List.length_take,QiR,qZ]; omega
theorem Qqk (key info:List Int) (n:Nat):List.replicate n 0=FF key info n []:=by simp [FF,okL]
theorem Qma (key info:List Int) (n:Nat) (pre:List Nat) (x:Nat) (h:pre.length=0∨32*pre.length<n) :
    (FF key info n pre).take (if n=32*pre.length then 0 else 32*pre.length)++(tg key info (x+1)).take (min 32 (n-32*pre.length))++(FF key info n pre).drop ((if n=32*pre.length then 0 else 32*pre.length)+min 32 (n-32*pre.length))=FF key info n (pre++[x]):=by
  have hl:=QiR key info pre
  have ht:(tg key info (x+1)).length=32:=QbX _ _
  have hp:(pre++[x]).length=pre.length+1:=by simp
  by_cases hn:n=32*pre.length
  · have h0:n=0:=by omega
    subst h0
    rw [if_pos hn]
    unfold FF
    simp
  · have hlt:32*pre.length<n:=by omega
    rw [if_neg hn]
    unfold FF
    rw [Qj3,hp,List.take_of_length_le (by omega:(okL key info pre).length≤n),List.take_append_of_le_length (by omega),List.take_of_length_le (by omega:(okL key info pre).length≤32*pre.length),
      List.drop_append,List.drop_of_length_le (by omega:(okL key info pre).length≤32*pre.length+min 32 (n-32*pre.length)),List.nil_append,List.drop_replicate,List.take_append,List.take_of_length_le (by omega:(okL key info pre).length≤n),hl]
    congr 1
    · congr 1
      by_cases h32:n-32*pre.length≤32
      · rw [show min 32 (n-32*pre.length)=n-32*pre.length by omega]
      · rw [show min 32 (n-32*pre.length)=32 by omega,List.take_of_length_le (by omega),List.take_of_length_le (by omega)]
    · congr 1; omega
theorem Qnw (key info:List Int) (n:Nat) (pre:List Nat) (x:Nat) (h:pre.length=0∨32*pre.length<n) :
    (FF key info n (pre++[x])).take (if n=32*pre.length then 0 else 32*pre.length)++(tg key info (x+1)).take (min 32 (n-32*pre.length))++(FF key info n (pre++[x])).drop ((if n=32*pre.length then 0 else 32*pre.length)+min 32 (n-32*pre.length))=FF key info n (pre++[x]):=by
  have ht:(tg key info (x+1)).length=32:=QbX _ _
  rw [←Qma key info n pre x h]
  refine QmI _ _ _ _ ?_ (by omega)
  rw [Qm0]
  split <;> omega
theorem Qpf (key info:List Int) (n k:Nat) (h:n≤32*k):FF key info n (List.range k)=(okm key info k).take n:=by
  unfold FF
  rw [Qic,List.length_range,show n-32*k=0 by omega,List.replicate_zero,List.append_nil]
theorem QeS (key info:List Int) (x:Nat):(tg key info (x+1)).length=32:=QbX _ _
theorem Qqt (a_key a_info:Option Addr) (n1 n2 c1 c2:Nat) (w:World):Calls Tryd.prog 71 #[.slice a_key n1 c1,.slice a_info n2 c2] w (QcB w (fun v W=>∃ g1 g2,v=.func (.func 83) #[] #[.pointer (some ⟨g1,0,none⟩),.pointer (some ⟨g2,0,none⟩)]∧w.heap.size≤g1∧w.heap.size≤g2∧W.heap[g1]? = some (.cells #[.slice a_key n1 c1] 24)∧W.heap[g2]? = some (.cells #[.slice a_info n2 c2] 24))):=by
  refine enter 6 [(0,.slice a_key n1 c1),(1,.slice a_info n2 c2)] Tryd.func71 rfl rfl kj rfl <| sgC fun K1 hK1=>Qaj (#[.slice a_key n1 c1]) 24 2 rfl kj kj fun g2 W1 l2 e1 r2_1=>?_
  have x1:=Ext.tr (Rely.Ext.refl w) e1
  refine Qaj (#[.slice a_info n2 c2]) 24 3 rfl kj kj fun g3 W2 l3 e2 r3_2=>sg 1 kj <| sgN hK1 <| sgB kj <| wp_ret ?_
  repeat (first | with_reducible refine goR1 ?_ | with_reducible refine goR2 ?_)
  exact (show bodyPost _ _ _ .ret _ _ from ret1 (.func (.func 83) #[] #[.pointer (some ⟨g2,0,none⟩),.pointer (some ⟨g3,0,none⟩)]) rfl (QaM kj) ⟨_,rfl,(Ext.tr x1 e2),g2,g3,rfl,(qT (Rely.Ext.refl w).size l2),(qT x1.size l3),(Qaa r2_1 e2),r3_2⟩)
theorem QmX (key info:List Int) (n k:Nat) (h:n≤32*k):((okm key info k).take n).length=n:=by
  rw [List.length_take,QiQ]; omega
theorem Qnj (key info:List Int) (v1 v2:Value) (B B2 n:Nat) (tc tq:TypeId) (w:World) (hc:w.heap[1]? = some (.cells (ints .u64 Qca) tc)) (hq:w.heap[0]? = some (.cells (ints .u64 Qbj) tq)) (hn:n≤8160) (hkl:key.length≤800000000) (hil:info.length≤700000000) (hkb:Qag key) (hib:Qag info) (hk:RdK .u8 B key v1 w) (hi:RdK .u8 B2 info v2 w) :
  Calls Tryd.prog 51 #[v1,v2,.int .i64 ((n:Nat):Int)] w (QcB w (fun v W=>∃ u k,v=.tuple #[u,.nilIface]∧n≤32*k∧OwnN .u8 5 w.heap.size ((okm key info k).take n) u W)):=by
 obtain ⟨a_key,c_key,rfl,-⟩:=id hk
 obtain ⟨a_info,c_info,rfl,-⟩:=id hi
 refine Qme 35 [(0,.slice a_key key.length c_key),(1,.slice a_info info.length c_info),(2,.int .i64 ((n:Nat):Int))] Tryd.func51 rfl rfl kj rfl <| sgC fun K3 hK3=>Qaj (#[.int .i64 ((n:Nat):Int)]) 3 5 rfl kj kj fun g4 W1 l4 e1 r4_1=>?_
 have x1:=Ext.tr (Rely.Ext.refl w) e1
 have b4:=qT (Rely.Ext.refl w).size l4
 refine sg 2 kj <| sgN hK3 <| wp_scope_straight <| wp_seq_k fun K5 hK5=>sgC fun K6 hK6=>Qad (.int .i64 ((n:Nat):Int)) 11 rfl kj (Qak 3 _ g4 0 3 _ (.int .i64 ((n:Nat):Int)) _ r4_1 rfl kj kj kj) <| Qad (.bool false) 12 rfl kj (Qal (u:=.bool (decide (((n:Nat):Int)<0))) kj (congrArg Value.bool (decide_eq_false (by omega)))) <| sg 1 kj <| Qad (.int .i64 ((n:Nat):Int)) 14 rfl kj (Qak 3 _ g4 0 3 _ (.int .i64 ((n:Nat):Int)) _ r4_1 rfl kj kj kj) <| Qad (.bool false) 15 rfl kj (Qal (u:=.bool (decide (((n:Nat):Int)>8160))) kj (congrArg Value.bool (decide_eq_false (by omega)))) ?_
 refine sg 1 kj <| sgN hK6 <| cond_false kj <| wp_skip <| hK5 _ _ <| sgC fun K7 hK7=>Qad (.int .i64 ((n:Nat):Int)) 18 rfl kj (Qak 3 _ g4 0 3 _ (.int .i64 ((n:Nat):Int)) _ r4_1 rfl kj kj kj) <| Qbw (ints .u8 (List.replicate n 0)) 5 n 19 rfl kj (QeF 24 _ _ .i64 .i64 n 5 rfl kj kj kj (.inr kj) (by omega)) fun g8 W2 l8 e2 r8_2=>?_
 have x2:=Ext.tr x1 e2
 have b8:=qT x1.size l8
 refine Qaj (#[.slice none 0 0]) 24 8 rfl kj kj fun g9 W3 l9 e3 r9_3=>Qah g9 _ (#[.slice (some ⟨g8,0,none⟩) n n]) 24 r9_3 rfl kj (QbP 24 _ _ g9 0 24 _ (.slice (some ⟨g8,0,none⟩) n n) r9_3 rfl kj kj kj kj kj rfl) fun W4 p4 r9_4=>?_
 have x4:=Puts.ext p4 (Ext.tr x2 e3) (qT x2.size l9)
 refine sgN hK7 <| sgC fun K10 hK10=>Qaj (#[.int .i64 0]) 3 9 rfl kj kj fun g11 W5 l11 e5 r11_5=>?_
 have b11:=qT x4.size l11
 refine Qah g11 _ (#[.int .i64 0]) 3 r11_5 rfl kj (QbP 3 _ _ g11 0 3 _ (.int .i64 0) r11_5 rfl kj kj kj kj kj rfl) fun W6 p6 r11_6=>sgN hK10 <| wp_seq_k fun K12 hK12=>wp_label <| hK12 _ _ <| wp_seq_k fun K13 hK13=>sgC fun K14 hK14=>sg 2 kj <| QaA (fun v W'=>(fun v W=>∃ g1 g2,v=.func (.func 83) #[] #[.pointer (some ⟨g1,0,none⟩),.pointer (some ⟨g2,0,none⟩)]∧W6.heap.size≤g1∧W6.heap.size≤g2∧W.heap[g1]? = some (.cells #[.slice a_key key.length c_key] 24)∧W.heap[g2]? = some (.cells #[.slice a_info info.length c_info] 24)) v W'∧Ext W6 W') 71 #[.slice a_key key.length c_key,.slice a_info info.length c_info] 22 rfl kj kj ((Qqt a_key a_info _ _ c_key c_info _).mono (by rintro e w' ⟨v,rfl,e1,hv⟩; exact ⟨v,rfl,hv,e1⟩)) fun vv15 W7 hh15=>?_
 obtain ⟨hv15,e7⟩:=hh15
 have x7:=Ext.tr (Puts.ext p6 (Ext.tr x4 e5) b11) e7
 obtain ⟨gp1,gp2,rfl,lp1,lp2,rp1,rp2⟩:=hv15
 refine sgN hK14 <| wp_block ?_
 have r4_2:=(Qaa r4_1 e2)
 have r4_4:=(Puts.row p4 (Qaa r4_2 e3) (Qab r4_2 l9))
 have r4_7:=(Qaa (Puts.row p6 (Qaa r4_4 e5) (Qab r4_4 l11)) e7)
 have r9_7:=(Qaa (Puts.row p6 (Qaa r9_4 e5) (Qab r9_4 l11)) e7)
 have r11_7:=(Qaa r11_6 e7)
 have r8_4:=(Puts.row p4 (Qaa r8_2 e3) (Qab r8_2 l9))
 have r8_6:=(Puts.row p6 (Qaa r8_4 e5) (Qab r8_4 l11))
 have r8_7:=(Qaa r8_6 e7)
 have r1_2:=(Qaa (Qaa hc e1) e2)
 have r1_4:=(Puts.row p4 (Qaa r1_2 e3) (Qab r1_2 l9))
 have r2_2:=(Qaa (Qaa hq e1) e2)
 have r2_4:=(Puts.row p4 (Qaa r2_2 e3) (Qab r2_2 l9))
 have nb58:g4≠g9:=(Qab r4_2 l9)
 have nb59:g4≠g11:=(Qab r4_4 l11)
 have nb5O:g4≠g8:=(Qab r4_1 l8)
 have nb85:g9≠g4:=(Qav r4_2 l9)
 have nb89:g9≠g11:=(Qab r9_4 l11)
 have nb8O:g9≠g8:=(Qav r8_2 l9)
 have nb95:g11≠g4:=(Qav r4_4 l11)
 have nb98:g11≠g9:=(Qav r9_4 l11)
 have nb9O:g11≠g8:=(Qav r8_4 l11)
 have nbO5:g8≠g4:=(Qav r4_1 l8)
 have nbO8:g8≠g9:=(Qab r8_2 l9)
 have nbO9:g8≠g11:=(Qab r8_4 l11)
 have hgs:∀ c∈([g11,g8]:List Nat),w.heap.size≤c:=(fun c hc=>by simp only [List.mem_cons,List.not_mem_nil,or_false] at hc; rcases hc with rfl | rfl; exact b11; exact b8)
 have hgl:∀ c∈([g11,g8]:List Nat),c<W7.heap.size:=(fun c hc=>by simp only [List.mem_cons,List.not_mem_nil,or_false] at hc; rcases hc with rfl | rfl; exact Qa4 r11_7; exact Qa4 r8_7)
 have hgp:∀ c∈([g11,g8]:List Nat),c<W6.heap.size:=(fun c hc=>by simp only [List.mem_cons,List.not_mem_nil,or_false] at hc; rcases hc with rfl | rfl; exact Qa4 r11_6; exact Qa4 r8_6)
 have hkL:RdK .u8 w.heap.size key (.slice a_key key.length c_key) W7:=(RdK.here hk).ext x7
 have hiL:RdK .u8 w.heap.size info (.slice a_info info.length c_info) W7:=(RdK.here hi).ext x7
 refine QiI (gf:=83) (lb:=#[.pointer (some ⟨gp1,0,none⟩),.pointer (some ⟨gp2,0,none⟩)]) (enc:=fun x:Nat=>.agg (ints .u8 (tg key info (x+1)))) kj (enters_of Tryd.func83 kj rfl) (Qkd 2 [g11,g8] gp1 gp2 w.heap.size key info a_key a_info c_key c_info tc tq W7 hkl hil hkb hib x7.size hgs hgl hkL hiL (Qaa (Puts.row p6 (Qaa r1_4 e5) (Qab r1_4 l11)) e7) (Qaa (Puts.row p6 (Qaa r2_4 e5) (Qab r2_4 l11)) e7) rp1 rp2 (fun hm=>by have:=hgp _ hm; omega) (fun hm=>by have:=hgp _ hm; omega) (fun hm=>by have h1:=hgs _ hm; have h2:=Qa4 hc; omega) (fun hm=>by have h1:=hgs _ hm; have h2:=Qa4 hq; omega)) (fun h k=>QbS.trans h k) QbS.book (Below.refl _ _)
   (fun pre W=>((W.heap[g4]? = some (.cells (#[.int .i64 ((n:Nat):Int)]) 3))∧(W.heap[g9]? = some (.cells (#[.slice (some ⟨g8,0,none⟩) n n]) 24))∧(W.heap[g11]? = some (.cells (#[.int .i64 ((32*pre.length:Nat):Int)]) 3))∧(W.heap[g8]? = some (.cells (ints .u8 (FF key info n pre)) 5))∧(pre.length=0∨32*pre.length<n)∧W7.heap.size≤W.heap.size)∧Ext w W)
   (fun c pre W=>(c=.exit 0∧n≤32*pre.length∧(W.heap[g4]? = some (.cells (#[.int .i64 ((n:Nat):Int)]) 3))∧(W.heap[g9]? = some (.cells (#[.slice (some ⟨g8,0,none⟩) n n]) 24))∧(W.heap[g8]? = some (.cells (ints .u8 (FF key info n pre)) 5)))∧Ext w W) (OwnFrom.and (Own.from (fun s A B row hs hg hr=>⟨Qbl hs.1 hg hr,Qbl hs.2.1 hg hr,Qbl hs.2.2.1 hg hr,Qbl hs.2.2.2.1 hg hr,hs.2.2.2.2.1,qT hs.2.2.2.2.2 hg.size⟩) _) (ownFrom_below (qR _) x7.size)) (fun c=>OwnFrom.and (Own.from (fun s A B row hs hg hr=>⟨hs.1,hs.2.1,Qbl hs.2.2.1 hg hr,Qbl hs.2.2.2.1 hg hr,Qbl hs.2.2.2.2 hg hr⟩) _) (ownFrom_below (qR _) x7.size)) ⟨⟨r4_7,r9_7,r11_7,QaC r8_7 (Qqk key info n),.inl rfl,qR _⟩,x7⟩ (fun e=>QbS.ext e) (fun pre A B h e=>⟨⟨Qaa h.1.1 e,Qaa h.1.2.1 e,Qaa h.1.2.2.1 e,Qaa h.1.2.2.2.1 e,h.1.2.2.2.2.1,qT h.1.2.2.2.2.2 e.size⟩,Rely.Ext.trans h.2 e⟩) (fun pre W h=>h.1.2.2.2.2.2) (fun x g=>[(10,.pointer (some ⟨g,0,none⟩)),(23,.agg (ints .u8 (tg key info (x+1))))]) (fun x=>ints .u8 (tg key info (x+1))) 61 (fun l x W K hK=>?_) (fun l pre x g10 W hg10 hI r10 hp=>?_) (fun D ys W lD hS hI rD=>?_) (fun D c pre W lD hSp hIx rD=>?_)
 ·skip
  refine Qbs <| QjD (ints .u8 (List.replicate 32 0)) 61 10 rfl (QaU l 1 _) rfl kj kj fun g301 W1 l301 e1 r301_1=>?_
  have x1:=Ext.tr (Rely.Ext.refl W) e1
  refine QfC g301 _ (ints .u8 (tg key info (x+1))) 61 r301_1 rfl (QaU l 1 _) rfl kj (Qaf 61 _ _ g301 61 _ _ r301_1 rfl kj kj (isz (n:=32) kj ((Qac _ _).trans (QeS _ _ _))) (eqsz (n:=32) ((Qac _ _).trans (qZ (n:=32))) ((Qac _ _).trans (QeS _ _ _))) (ints_one _ _)) fun W2 p2 r301_2=>?_
  have x2:=Puts.ext p2 x1 (qT (Rely.Ext.refl W).size l301)
  refine Qdp ?_
  exact hK _ _ l301 (Puts.ext p2 (Rely.Ext.trans (Rely.Ext.refl W) e1) l301) r301_2
 ·skip
  obtain ⟨⟨q5,q8,q9,qO,hpl,hsz⟩,xx⟩:=hI
  have n105:g10≠g4:=by have h1:=Qa4 r4_7; omega
  have n108:g10≠g9:=by have h1:=Qa4 r9_7; omega
  have n109:g10≠g11:=by have h1:=Qa4 r11_7; omega
  have n10O:g10≠g8:=by have h1:=Qa4 r8_7; omega
  have hl1:(pre++[x]).length=pre.length+1:=by simp
  have htl:=QeS key info x
  refine wpIn_block <| wpIn_seq_k fun K506 hK506=>QgF (QdB g8 (Obj.cells (ints .u8 (FF key info n pre)) 5) (Obj.cells (ints .u8 (FF key info n (pre++[x]))) 5)) (QdB.refl _ _ _) (fun h k=>QdB.trans h k) 6 [⟨none,[(9,none)]⟩,⟨none,[(8,none)]⟩,⟨none,[(9,none)]⟩,⟨none,[(25,some 1),(26,some 2)]⟩,⟨none,[(10,none)]⟩,⟨none,[(27,some 3),(28,some 4)]⟩] (QaU l 1 _) rfl kj kj fun F hF=>QkK (QdB.refl _ _ _) (.int .i64 ((32*pre.length:Nat):Int)) kj kj (fun W hR=>(Qak 3 _ g11 0 3 _ (.int .i64 ((32*pre.length:Nat):Int)) _ (ExtB.row hR.1 (Qaa q9 (Qai _)) nb9O) rfl kj kj kj)) <| QkK (QdB.refl _ _ _) (.slice (some ⟨g8,0,none⟩) n n) kj kj (fun W hR=>(Qak 24 _ g9 0 24 _ (.slice (some ⟨g8,0,none⟩) n n) _ (ExtB.row hR.1 (Qaa q8 (Qai _)) nb8O) rfl kj kj kj)) <| QkK (QdB.refl _ _ _) (.int .i64 ((32*pre.length:Nat):Int)) kj kj (fun W hR=>(Qak 3 _ g11 0 3 _ (.int .i64 ((32*pre.length:Nat):Int)) _ (ExtB.row hR.1 (Qaa q9 (Qai _)) nb9O) rfl kj kj kj)) <| QkK (QdB.refl _ _ _) (.slice (some ⟨g8,(if n=32*pre.length then 0 else 32*pre.length),none⟩) (n-32*pre.length) (n-32*pre.length)) kj kj (fun W hR=>Qkm 24 _ _ (32*pre.length) g8 n n 5 rfl kj kj kj .i64 kj (by omega) (qR _)) <| QkK (QdB.refl _ _ _) (.slice (some ⟨g10,0,none⟩) 32 32) kj kj (fun W hR=>by kernel_rfl) <| Qqm (fun u W=>u=.int .i64 (((min 32 (n-32*pre.length)):Nat):Int)∧W.heap[g8]? = some (Obj.cells (ints .u8 (FF key info n (pre++[x]))) 5)) (QdB.stable _ _ _ _) kj kj (fun W hR=>?_) ?_
  ·have hsrc:RdK .u8 W.heap.size (tg key info (x+1)) (.slice (some ⟨g10,0,none⟩) 32 32) W:=QbB (QeS _ _ _) (ExtB.row hR.1 (Qaa r10 (Qai _)) n10O) (Qa4 (ExtB.row hR.1 (Qaa r10 (Qai _)) n10O)) (by decide)
   have hoff:(if n=32*pre.length then 0 else 32*pre.length)+(n-32*pre.length)≤n:=by split <;> omega
   rcases hR.row (Qaa qO (Qai _)) with hX | hY
   ·exact Qj0 (QhP (k:=.u8) (e:=5) (.tmp 27) (.tmp 28) 24 24 (by rfl) kj kj (off:=(if n=32*pre.length then 0 else 32*pre.length)) (dl:=n-32*pre.length) (dc:=n-32*pre.length) (n:=(min 32 (n-32*pre.length))) (xs:=FF key info n pre) kj kj hsrc hX (by rw [Qm0]; exact hoff) (by rw [QeS]) (Qma key info n pre x hpl))
   ·exact Qj0 (QhP (k:=.u8) (e:=5) (.tmp 27) (.tmp 28) 24 24 (by rfl) kj kj (off:=(if n=32*pre.length then 0 else 32*pre.length)) (dl:=n-32*pre.length) (dc:=n-32*pre.length) (n:=(min 32 (n-32*pre.length))) (xs:=FF key info n (pre++[x])) kj kj hsrc hY (by rw [Qm0]; exact hoff) (by rw [QeS]) (Qnw key info n pre x hpl))
  refine QdN (hF _ fun W1 hR=>?_)
  simp only [List.nil_append,List.cons_append,List.take_succ_cons,List.take_zero,List.drop_succ_cons,List.drop_zero,finE,up]
  rintro v29 ⟨rfl,rO_1⟩
  clear hF
  have q1:=ExtB.trans (ExtB.ext (ExtB.refl _ _) (Qai _)) hR.1
  have x1:=ExtB.up xx q1 b8
  refine QbJ (.int .i64 (((32*pre.length)+(min 32 (n-32*pre.length)):Nat):Int)) 30 rfl (QaU l 1 _) rfl kj (Qal (u:=.int .i64 (IntKind.i64.wrap (((32*pre.length:Nat):Int)+(((min 32 (n-32*pre.length)):Nat):Int)))) kj (congrArg (Value.int .i64) (i64n _ _ (by omega) (by omega)))) ?_
  have r503_1:=(ExtB.row q1 q9 nb9O)
  refine QfC g11 _ (#[.int .i64 (((32*pre.length)+(min 32 (n-32*pre.length)):Nat):Int)]) 3 r503_1 rfl (QaU l 1 _) rfl kj (QbP 3 _ _ g11 0 3 _ (.int .i64 (((32*pre.length)+(min 32 (n-32*pre.length)):Nat):Int)) r503_1 rfl kj kj kj kj kj rfl) fun W2 p2 r503_2=>?_
  have x2:=Puts.ext p2 x1 b11
  refine Qdp <| hK506 _ _ <| wpIn_seq_k fun K507 hK507=>Qbs <| QbJ (.int .i64 (((32*pre.length)+(min 32 (n-32*pre.length)):Nat):Int)) 31 rfl (QaU l 1 _) rfl kj (Qak 3 _ g11 0 3 _ (.int .i64 (((32*pre.length)+(min 32 (n-32*pre.length)):Nat):Int)) _ r503_2 rfl kj kj kj) ?_
  have r501_2:=(Puts.row p2 (ExtB.row q1 q5 nb5O) nb59)
  refine QbJ (.int .i64 ((n:Nat):Int)) 32 rfl (QaU l 1 _) rfl kj (Qak 3 _ g4 0 3 _ (.int .i64 ((n:Nat):Int)) _ r501_2 rfl kj kj kj) <| QbJ (.bool (((((32*pre.length)+(min 32 (n-32*pre.length)):Nat):Int)==((n:Nat):Int)))) 33 rfl (QaU l 1 _) rfl kj kj <| Qdp <| hK507 _ _ <| QdK (t:=((((32*pre.length)+(min 32 (n-32*pre.length)):Nat):Int)==((n:Nat):Int))) kj (fun c508=>?_) (fun c508=>?_)
  ·skip
   have hm:32*pre.length+min 32 (n-32*pre.length)=n∨32*pre.length+min 32 (n-32*pre.length)≠n:=by omega
   have hge:n≤32*(pre.length+1):=by have:=eq_of_beq c508; omega
   refine wpIn_exit ?_
   repeat (first | with_reducible refine goX1 ?_ | with_reducible refine goXo (by decide) ?_)
   have r502_1:=(ExtB.row q1 q8 nb8O)
   have r502_2:=(Puts.row p2 r502_1 nb89)
   have r504_2:=(Puts.row p2 rO_1 nbO9)
   exact ⟨((Qiq q1 qO).trans (Qdh p2 r503_1)),⟨rfl,by rw [hl1]; exact hge,r501_2,r502_2,r504_2⟩,x2⟩
  ·skip
   have hm:32*pre.length+min 32 (n-32*pre.length)=n∨32*pre.length+min 32 (n-32*pre.length)≠n:=by omega
   have hlt:32*(pre.length+1)<n:=by
    have h:=c508
    apply Decidable.byContradiction
    intro hc2
    have e:((32*pre.length+min 32 (n-32*pre.length):Nat):Int)=((n:Nat):Int):=by omega
    rw [e,beq_self_eq_true] at h
    exact absurd h (by decide)
   refine wpIn_skip ?_
   repeat (first | with_reducible refine goX1 ?_ | with_reducible refine goX2 ?_ | with_reducible refine goX3 ?_)
   have r502_1:=(ExtB.row q1 q8 nb8O)
   have r502_2:=(Puts.row p2 r502_1 nb89)
   have r504_2:=(Puts.row p2 rO_1 nbO9)
   exact ⟨((Qiq q1 qO).trans (Qdh p2 r503_1)),(QbS.trans (QlI q1 (by simp)) (Qk3 p2 (by simp))),⟨r501_2,r502_2,by rw [hl1,show 32*(pre.length+1)=32*pre.length+min 32 (n-32*pre.length) by omega]; exact r503_2,r504_2,.inr (by rw [hl1]; exact hlt),qT hsz (qT (qT (qR _) q1.2.2.2.1) (qE p2.2.2.2.1.symm))⟩,x2⟩
 ·exfalso
  obtain ⟨⟨-,-,-,-,hpl,-⟩,-⟩:=hI
  subst hS
  rw [List.length_range] at hpl
  omega
 ·obtain ⟨⟨rfl,hge,q5,q8,qO⟩,xx⟩:=hIx
  obtain ⟨kR,rfl,-⟩:=hSp
  rw [List.length_range] at hge
  rw [Qpf key info n kR hge] at qO
  have bD:w.heap.size≤D:=qT x7.size lD
  refine wp_exit <| hK13 _ _ <| sgC fun K17 hK17=>Qad (.slice (some ⟨g8,0,none⟩) n n) 34 rfl kj (Qak 24 _ g9 0 24 _ (.slice (some ⟨g8,0,none⟩) n n) _ q8 rfl kj kj kj) <| sg 2 kj <| sgN hK17 <| wp_ret ?_
  repeat (first | with_reducible refine goR1 ?_ | with_reducible refine goR2 ?_)
  exact (show bodyPostM _ _ _ _ _ .ret _ _ from Qop (.slice (some ⟨g8,0,none⟩) n n) (.nilIface) rfl rD (QaM kj) (QaM kj) ⟨_,rfl,Qf9 xx bD rD _,_,kR,rfl,hge,Qdy (QmX key info n kR hge) b8 (Qf8 qO rD _) (by simp only [maxLen]; omega)⟩)
end Go.Proofs.YtmljnchhgkfemaaDoor.Sha
end
section
namespace Go.Proofs.YtmljnchhgkfemaaDoor.Sha
open Go Go.RowKit
open Rely Auto Own
def kx (key info:List Int) (n:Nat):List Int:=(okm key info n).take n
theorem QiP (key info:List Int) (n:Nat):∀ (k d:Nat),n≤32*k→(okm key info (k+d)).take n=(okm key info k).take n
  | k,0,_=>rfl
  | k,d+1,h=>by
    rw [show k+(d+1)=(k+d)+1 by omega,okm,List.take_append_of_le_length (by rw [QiQ]; omega),QiP key info n k d h]
theorem QqE (key info:List Int) (n k:Nat) (h:n≤32*k):(okm key info k).take n=kx key info n:=by
  unfold kx
  rcases Nat.le_total k n with h1 | h1
  · obtain ⟨d,rfl⟩:∃ d,n=k+d:=⟨n-k,by omega⟩
    exact (QiP key info _ k d h).symm
  · obtain ⟨d,rfl⟩:∃ d,k=n+d:=⟨k-n,by omega⟩
    exact QiP key info _ n d (by omega)
theorem Qgg (key info:List Int) (n:Nat):(kx key info n).length=n:=by unfold kx; rw [List.length_take,QiQ]; omega
theorem Qni (key info:List Int) (v1 v2:Value) (B B2 n:Nat) (tc tq:TypeId) (w:World) (hc:w.heap[1]? = some (.cells (ints .u64 Qca) tc)) (hq:w.heap[0]? = some (.cells (ints .u64 Qbj) tq)) (hn:n≤8160) (hkl:key.length≤800000000) (hil:info.length≤700000000) (hkb:Qag key) (hib:Qag info) (hk:RdK .u8 B key v1 w) (hi:RdK .u8 B2 info v2 w) :
    Calls Tryd.prog 51 #[v1,v2,.int .i64 ((n:Nat):Int)] w (QcB w (fun v W=>∃ u,v=.tuple #[u,.nilIface]∧OwnN .u8 5 w.heap.size (kx key info n) u W)) :=
  (Qnj key info v1 v2 B B2 n tc tq w hc hq hn hkl hil hkb hib hk hi).mono fun e W' ⟨v,h1,h2,u,k,h3,h4,h5⟩=>⟨v,h1,h2,u,h3,QqE key info n k h4▸h5⟩
end Go.Proofs.YtmljnchhgkfemaaDoor.Sha
end
section
namespace Go.Proofs.YtmljnchhgkfemaaDoor.Sha
open Go Go.RowKit
open Rely Auto Own
section
variable {P : Program} {ρ : Operand → Value} {o : Oper} {w : World}
theorem Qen (t : TypeId) (x y:Operand) (k:IntKind) (n g off len cap:Nat) (e:TypeId) (a:Option Addr) (z:Int) (ha:a=some ⟨g,off,none⟩) (hz:z=(n:Int)) (ho:o.op=.indexAddr t x y) (hx:ρ x=.slice a len cap) (hy:ρ y=.int k z)
    (hu:P.underlying t=some (.slice e)) (hs:(P.info? e).map (·.size)=some 1) (hn:n<len):(execOp ρ o).run P w=.ok (.value (.pointer (some ⟨g,off+n,none⟩))) w:=by
  subst ha; subst hz
  exact QcI t x y k n g off len cap e ho hx hy hu hs hn
end
theorem Qcx {P : Program} {ρ:Operand→Value} {o:Oper} {w:World} (x:Operand) (i:Nat) (vs:Array Value) (u:Value) (ho:o.op=.extract x i) (hx:ρ x=.tuple vs) (hi:vs[i]? = some u):(execOp ρ o).run P w=.ok (.value u) w:=by
  unfold execOp
  simp [ho,hx,Instr.extract,hi]
theorem QpE {k : IntKind} {T:TypeId} {base g:Nat} {xs:List Int} {v:Value} {W:World} (h:OwnN k T base xs v W) (hg:W.heap.size≤g):v.ownBlock≠some g:=fun e=>by have:=h.lt e; omega
theorem Qps (zs : List Int) (m:Nat) (y:Int) (h:m<zs.length):zs.take m++[y]++zs.drop (m+1)=zs.set m y:=by
  rw [List.set_eq_take_append_cons_drop,if_pos h,List.append_assoc]; rfl
theorem QhQ {P : Program} {k:IntKind} {T:TypeId} {b:Nat} {ρ:Operand→Value} {o:Oper} {W:World} (s x:Operand) (t:TypeId) (ho:o.op=.call { callee:=.builtin .append,args:=#[s,x],argTypes:=#[t,t] })
    (ht:P.underlying t=some (.slice T)) (hi:(P.info? T).map (fun i=>(i.zero,i.size,i.bytes))=some (some (.int k 0),1,b)) {g m n gy:Nat} {zs:List Int} {y:Int} {Ty:TypeId} (hs:ρ s=.slice (some ⟨g,0,none⟩) m n) (hx:ρ x=.slice (some ⟨gy,0,none⟩) 1 1)
    (hg:W.heap[g]? = some (.cells (ints k zs) T)) (hz:zs.length=n) (hm:m<n) (hy:W.heap[gy]? = some (.cells (ints k [y]) Ty)) :
    (execOp ρ o).run P W=.ok (.value (.slice (some ⟨g,0,none⟩) (m+1) n)) (W.setRow g (ints k (zs.set m y))):=by
  obtain ⟨i,hq,hi1,hi2,hi3⟩:=Qnq hi
  have hr:=run_append_room (P:=P) W t o.type T i ht hq g m n (ints k zs) hg ⟨gy,0,none⟩ 1 1 ([y].map (Value.int k)) (by simp [hi2]) (Qif (k:=k) (ys:=[y]) fun j hj=>by rw [Nat.zero_add]; exact QaI hy (Qar k [y] j hj)) (Qks _ [y]) (by omega) (by rw [hi2,Qac]; simp; omega)
  have e:((ints k zs).toList.take (m*i.size)++[y].map (Value.int k)++(ints k zs).toList.drop (m*i.size+([y].map (Value.int k)).length)).toArray=ints k (zs.set m y):=by
    rw [←Qps zs m y (by omega),hi2,Nat.mul_one]
    simp [ints]
  rw [e] at hr
  unfold execOp
  simp only [ho,resolve,invoke,builtin,Sem.run_bind,Sem.run_pure,Result.andThen_ok,List.map_toArray,List.map_cons,List.map_nil,hs,hx,hr]
section
variable {ds : List Deferred} {Fe : Fence} {nf : Nat} {P : Program} {ops : Array Oper} {Q : Exit → Act → World → Prop} {rest : List Oper} {o : Oper} {N : Nat} {L : Env} {w : World}
theorem QoP {g : Nat} {old cs:Array Value} {T:TypeId} (v:Value) (d:Nat) (hd:o.dst=some d) (hF:Free Fe nf P) (hnd:Qcr o=true) (hg:Qcd ops o N L=some true) (r:w.heap[g]? = some (.cells old T)) (h:(execOp (Rely.look (envN N L)) o).run P w=.ok (.value v) (w.setRow g cs))
    (k:∀ W':World,Puts w g W'→W'.heap[g]? = some (.cells cs T)→WLI Fe nf P ops Q rest (Qap ds N ((d,v)::L)) W'):WLI Fe nf P ops Q (o::rest) (Qap ds N L) w :=
  QlO _ _ d hd hF hnd hg h (k _ (Qb6 _ _ _) (setRow_heap _ _ _ _ _ _ r))
end
section
variable {ds : List Deferred} {P : Program} {ops : Array Oper} {Q : Exit → Act → World → Prop} {rest : List Oper} {o : Oper} {N : Nat} {L : Env} {w : World}
theorem QkZ (cs : Array Value) (T:TypeId) (m n d:Nat) (hd:o.dst=some d) (hg:Qcd ops o N L=some true) (h:(execOp (Rely.look (envN N L)) o).run P w=.ok (.value (.slice (some ⟨w.heap.size,0,none⟩) m n)) (w.alloc (.cells cs T)))
    (k:∀ (g:Nat) (W:World),w.heap.size≤g→Ext w W→W.heap[g]? = some (.cells cs T)→WL P ops Q rest (Qap ds N ((d,.slice (some ⟨g,0,none⟩) m n)::L)) W):WL P ops Q (o::rest) (Qap ds N L) w :=
  QbN _ _ d hd hg h (k _ _ (qR _) (QaH _ _) (heap_alloc_new _ _))
end
theorem Qld {P : Program} {ρ:Operand→Value} {o:Oper} {w:World} {k:IntKind} (t:TypeId) (x y:Operand) (kl kc:IntKind) (m n:Nat) (e:TypeId) (ho:o.op=.makeSlice t x y) (hx:ρ x=.int kl m) (hy:ρ y=.int kc n)
    (hu:P.underlying t=some (.slice e)) (hi:(P.info? e).map (fun i=>(i.zero,i.size,i.bytes))=some (some (.int k 0),1,8)∨(P.info? e).map (fun i=>(i.zero,i.size,i.bytes))=some (some (.int k 0),1,1)) (hm:m≤n) (hn:n≤16777216) :
    (execOp ρ o).run P w=.ok (.value (.slice (some ⟨w.heap.size,0,none⟩) m n)) (w.alloc (.cells (ints k (List.replicate n 0)) e)):=by
  cases hq:P.info? e with
  | none=>rcases hi with hi | hi <;> simp [hq] at hi
  | some i =>
    have hz:i.zero=some (.int k 0)∧i.size=1∧i.bytes≤8:=by
      rcases hi with hi | hi <;> simp [hq] at hi <;> exact ⟨hi.1,hi.2.1,by omega⟩
    have hb:(i.bytes:Int)*(n:Int)≤281474976710656:=by
      have h1:(i.bytes:Int)*(n:Int)≤8*(n:Int):=Int.mul_le_mul_of_nonneg_right (by omega) (by omega)
      omega
    have h:=run_make w t e i (.int k 0) hu hq hz.1 kl kc (m:Int) (n:Int) (by omega) (by omega) hb (by omega)
    rw [hz.2.1,Int.toNat_natCast,Int.toNat_natCast,Qgd] at h
    unfold execOp
    simp only [ho,hx,hy,Sem.run_bind,Sem.run_pure,h,Result.andThen_ok]
theorem Qfu {gs : List Nat} {V W:World} (q:Qau gs V W) (h:∀ g∈gs,∃ cs t,V.heap[g]? = some (.cells cs t)):KeepsOthers V W :=
  ⟨q.size,fun k o hk ho=>by
    by_cases e:k∈gs
    · obtain ⟨cs,t,r⟩:=h k e
      rw [r] at hk
      cases hk
      cases ho
    · exact (q.block k (Qa4 hk) e).trans hk⟩
end Go.Proofs.YtmljnchhgkfemaaDoor.Sha
end
section
namespace Go.Proofs.YtmljnchhgkfemaaDoor.Sha
open Go Go.RowKit
open Rely Auto Own
section
variable {P : Program} {ρ : Operand → Value} {o : Oper} {w : World}
theorem Qg1 (t : TypeId) (x z:Operand) (h:Nat) (e:TypeId) (ho:o.op=.slice t x none (some z) none) {a:Option Addr} {len cap:Nat} (hx:ρ x=.slice a len cap)
    (hu:P.underlying t=some (.slice e)) (hs:(P.info? e).map (·.size)=some 1) (kz:IntKind) (hz:ρ z=.int kz (h:Int)) (h2:h≤cap) :
    (execOp ρ o).run P w=.ok (.value (.slice a h cap)) w:=by
  cases hq:P.info? e with
  | none=>simp [hq] at hs
  | some i =>
    have hs':i.size=1:=by simpa [hq] using hs
    unfold execOp
    have hadd:∀ a:Option Addr,Option.map (fun x=>x.add 0) a=a:=fun a=>by
      cases a with
      | none=>rfl
      | some a=>obtain ⟨b,o,s⟩:=a; cases s <;> simp [Addr.add]
    simp [ho,hx,hz,Instr.sliceAt,Instr.slice,Instr.sliceBounds,run_sliceBound,run_underlying hu,sizeOf,typeInfo,hq,hs',h2,hadd]
end
section
variable {ds : List Deferred} {P : Program} {ops : Array Oper} {Q : Exit → Act → World → Prop} {rest : List Oper} {o : Oper} {N : Nat} {L : Env} {w : World}
end
def Qm1 (T : TypeId) (base:Nat) (t:List Int) (v:Value) (W:World):Prop:=∃ g c,v=.slice (some ⟨g,0,none⟩) t.length c∧OwnN .u8 T base (t++[165,90]) (.slice (some ⟨g,0,none⟩) (t++[165,90]).length c) W
theorem Qm1.ext {T : TypeId} {base:Nat} {t:List Int} {v:Value} {W W':World} (h:Qm1 T base t v W) (e:Ext W W'):Qm1 T base t v W':=by
  obtain ⟨g,c,rfl,h2⟩:=h
  exact ⟨g,c,rfl,h2.ext e⟩
theorem Qm1.rd {T : TypeId} {base:Nat} {t:List Int} {v:Value} {W:World} (h:Qm1 T base t v W):RdK .u8 W.heap.size t v W:=by
  obtain ⟨g,c,rfl,h2⟩:=h
  obtain ⟨a,cap,e,q2,q3,q4,q5⟩:=OwnN.rd h2
  simp only [Value.slice.injEq] at e
  obtain ⟨rfl,-,rfl⟩:=e
  rw [List.length_append] at q2
  refine ⟨_,_,rfl,by omega,q3,q4,.inr ?_⟩
  rcases q5 with q5 | ⟨g',o,e1,e2,e3,e4⟩
  · simp at q5
  · refine ⟨g',o,e1,e2,e3,fun i hi=>?_⟩
    rw [e4 i (by rw [List.length_append]; omega)]
    simp [nth,List.getElem?_append_left hi]
theorem Qq1 (x y:Value) (xs ys:List Int) (w:World) (hx:Qdv w x xs) (hy:Qdv w y ys):Calls Tryd.prog 9 #[x,y] w (Ret w (.bool (decide (xs=ys)))):=by
  have hse:((Qe2 xs).toList==(Qe2 ys).toList)=decide (xs=ys):=by
    obtain ⟨_,_,_,_,bx,_⟩:=hx
    obtain ⟨_,_,_,_,by',_⟩:=hy
    exact QkT bx by'
  refine enter 10 [(0,x),(1,y)] Tryd.func9 rfl rfl kj rfl <| sgB kj <| sgC fun K2 hK2=>sg 1 kj <| Qad (.string (Qe2 xs)) 6 rfl kj (QfR _ x rfl kj xs hx) <| sg 1 kj <| Qad (.string (Qe2 ys)) 8 rfl kj (QfR _ y rfl kj ys hy) <| Qad (.bool (decide (xs=ys))) 9 rfl kj (Qal (u:=.bool ((Qe2 xs).toList==(Qe2 ys).toList)) kj (congrArg Value.bool hse)) <| sg 1 kj <| sgN hK2 ?_
  refine wp_ret ?_
  repeat (first | with_reducible refine goR1 ?_ | with_reducible refine goR2 ?_)
  exact (show bodyPost _ _ _ .ret _ _ from ret1 (.bool (decide (xs=ys))) rfl (QaM kj) ⟨rfl,(Rely.Ext.refl w)⟩)
theorem Qq0 (x y:Value) (xs ys:List Int) (w:World) (e:xs=ys) (hx:Qdv w x xs) (hy:Qdv w y ys):Calls Tryd.prog 9 #[x,y] w (Ret w (.bool true)):=by
  have h:=Qq1 x y xs ys w hx hy
  rw [decide_eq_true e] at h
  exact h
def restA (a : Option Addr) (c l:Nat):Option Addr:=if c=l then a else a.map fun z=>z.add l
theorem Qem {P : Program} {ρ:Operand→Value} {o:Oper} {w:World} (t:TypeId) (x z:Operand) (l:Nat) (e:TypeId) (ho:o.op=.slice t x (some z) none none) {a:Option Addr} {len cap:Nat} (hx:ρ x=.slice a len cap)
    (hu:P.underlying t=some (.slice e)) (hs:(P.info? e).map (·.size)=some 1) (kz:IntKind) (hz:ρ z=.int kz (l:Int)) (h1:l≤len) (h2:len≤cap) :
    (execOp ρ o).run P w=.ok (.value (.slice (restA a cap l) (len-l) (cap-l))) w:=by
  cases hq:P.info? e with
  | none=>simp [hq] at hs
  | some i =>
    have hs':i.size=1:=by simpa [hq] using hs
    unfold execOp restA
    have hadd:∀ a:Option Addr,Option.map (fun x=>x.add 0) a=a:=fun a=>by
      cases a with
      | none=>rfl
      | some a=>obtain ⟨b,o,s⟩:=a; cases s <;> simp [Addr.add]
    by_cases hc:cap=l
    · simp [ho,hx,hz,Instr.sliceAt,Instr.slice,Instr.sliceBounds,run_sliceBound,run_underlying hu,sizeOf,typeInfo,hq,hs',h1,h2,hadd,hc]
    · simp [ho,hx,hz,Instr.sliceAt,Instr.slice,Instr.sliceBounds,run_sliceBound,run_underlying hu,sizeOf,typeInfo,hq,hs',h1,h2,hadd,hc]
theorem Qf7 {k : IntKind} {B n c:Nat} {ys:List Int} {a:Option Addr} {W:World} (h:RdK k B ys (.slice a n c) W) (l:Nat) (hl:l≤ys.length):RdK k B (ys.drop l) (.slice (restA a c l) (n-l) (c-l)) W:=by
  obtain ⟨a',cap,e,h2,h3,h4,h5⟩:=h
  simp only [Value.slice.injEq] at e
  obtain ⟨rfl,rfl,rfl⟩:=e
  refine ⟨_,_,by rw [List.length_drop],by rw [List.length_drop]; omega,by omega,?_,?_⟩
  · intro e
    unfold restA at e
    split at e
    · omega
    · have:=h4 (by cases a <;> simp_all); omega
  · rcases h5 with h5 | ⟨g,o,rfl,q2,q3,q4⟩
    · left; rw [h5]; simp
    · rcases Nat.lt_or_ge l ys.length with hlt | hge
      · right
        refine ⟨g,o+l,?_,q2,q3,fun i hi=>?_⟩
        · unfold restA
          rw [if_neg (by omega),Option.map_some]
          simp [Addr.add]
        · rw [List.length_drop] at hi
          rw [Nat.add_assoc,q4 (l+i) (by omega)]
          simp [nth]
      · left; exact List.drop_of_length_le hge
theorem Qhb {k : IntKind} {B n c:Nat} {ys:List Int} {a:Option Addr} {W:World} (h:RdK k B ys (.slice a n c) W) (l:Nat) (hl:l≤ys.length):RdK k B (ys.take l) (.slice a l c) W:=by
  obtain ⟨a',cap,e,h2,h3,h4,h5⟩:=h
  simp only [Value.slice.injEq] at e
  obtain ⟨rfl,rfl,rfl⟩:=e
  have hlen:(ys.take l).length=l:=by rw [List.length_take]; omega
  refine ⟨_,_,by rw [hlen],by omega,h3,h4,?_⟩
  rcases h5 with rfl | ⟨g,off,rfl,q2,q3,q4⟩
  · exact .inl (by simp)
  · refine .inr ⟨g,off,rfl,q2,q3,fun i hi=>?_⟩
    rw [hlen] at hi
    rw [q4 i (by omega)]
    simp [nth,List.getElem?_take,hi]
end Go.Proofs.YtmljnchhgkfemaaDoor.Sha
end
section
namespace Go.Proofs.YtmljnchhgkfemaaDoor.Sha
open Go Go.RowKit
open Rely Auto Own
section
variable {P : Program} {ρ : Operand → Value} {o : Oper} {w : World}
theorem Qg2 {k : IntKind} (t:TypeId) (x y:Operand) (kl kc:IntKind) (n:Nat) (e:TypeId) (ho:o.op=.makeSlice t x y) (hx:ρ x=.int kl 0) (hy:ρ y=.int kc n)
    (hu:P.underlying t=some (.slice e)) (hi:(P.info? e).map (fun i=>(i.zero,i.size,i.bytes))=some (some (.int k 0),1,1)) (hn:n≤1000000000) :
    (execOp ρ o).run P w=.ok (.value (.slice (some ⟨w.heap.size,0,none⟩) 0 n)) (w.alloc (.cells (ints k (List.replicate n 0)) e)):=by
  cases hq:P.info? e with
  | none=>simp [hq] at hi
  | some i =>
    have hz:i.zero=some (.int k 0)∧i.size=1∧i.bytes=1:=by simpa [hq] using hi
    have hb:(i.bytes:Int)*(n:Int)≤281474976710656:=by rw [hz.2.2]; omega
    have h:=run_make w t e i (.int k 0) hu hq hz.1 kl kc 0 (n:Int) (by omega) (by omega) hb (by omega)
    rw [hz.2.1,Int.toNat_natCast,Qgd] at h
    unfold execOp
    simp only [ho,hx,hy,Sem.run_bind,Sem.run_pure,h,Result.andThen_ok]
    rfl
end
section
variable {ds : List Deferred} {P : Program} {ops : Array Oper} {Q : Exit → Act → World → Prop} {rest : List Oper} {o : Oper} {N : Nat} {L : Env} {w : World}
theorem Qkk (cs : Array Value) (T:TypeId) (n d:Nat) (hd:o.dst=some d) (hg:Qcd ops o N L=some true) (h:(execOp (Rely.look (envN N L)) o).run P w=.ok (.value (.slice (some ⟨w.heap.size,0,none⟩) 0 n)) (w.alloc (.cells cs T)))
    (k:∀ (g:Nat) (W:World),w.heap.size≤g→Ext w W→W.heap[g]? = some (.cells cs T)→WL P ops Q rest (Qap ds N ((d,.slice (some ⟨g,0,none⟩) 0 n)::L)) W):WL P ops Q (o::rest) (Qap ds N L) w :=
  QbN _ _ d hd hg h (k _ _ (qR _) (QaH _ _) (heap_alloc_new _ _))
end
def strB (s : ByteArray):List Int:=s.data.toList.map fun b=>(b.toNat:Int)
theorem Qej (s : ByteArray):(strB s).length=s.size:=by unfold strB; rw [List.length_map,Array.length_toList]; rfl
theorem Qkf (s : ByteArray):Qag (strB s):=fun x hx=>by
  unfold strB at hx
  obtain ⟨b,-,rfl⟩:=List.mem_map.1 hx
  have:=b.toNat_lt
  omega
theorem Qke (s : ByteArray):Lib.strCells s=(strB s).map (Value.int .u8):=by unfold Lib.strCells strB; rw [List.map_map]; rfl
theorem QnB {P : Program} {T:TypeId} {ρ:Operand→Value} {o:Oper} {W:World} (s x:Operand) (t u:TypeId) (ho:o.op=.call { callee:=.builtin .append,args:=#[s,x],argTypes:=#[t,u] })
    (ht:P.underlying t=some (.slice T)) (hu:P.underlying u=some .string) (hi:(P.info? T).map (fun i=>(i.zero,i.size,i.bytes))=some (some (.int .u8 0),1,1)) {base:Nat} {v:Value} {xs:List Int} {lab:ByteArray} (hs:ρ s=v) (hx:ρ x=.string lab)
    (h:OwnN .u8 T base xs v W) (hn:xs.length+(strB lab).length≤1000000000) (hbase:base≤W.heap.size) :
    ∃ v' W',(execOp ρ o).run P W=.ok (.value v') W'∧OwnN .u8 T base (xs++strB lab) v' W'∧W.grownBy W' v.ownBlock:=by
  obtain ⟨i,hq,hi1,hi2,hi3⟩:=Qnq hi
  rw [Qej] at hn
  obtain ⟨v',W',hr,h2,h3,_⟩:=Lib.run_append_own_string (P:=P) W base t u o.type T i ht hu hq hi1 hi2 hi3 v xs.length (xs.map (Value.int .u8)) h.1 lab (by simp only [maxLen]; omega) (by omega) hbase
  refine ⟨v',W',?_,⟨?_,by rw [List.length_append,Qej]; simp only [maxLen]; omega⟩,h3⟩
  · unfold execOp
    simp only [ho,resolve,invoke,builtin,Sem.run_bind,Sem.run_pure,Result.andThen_ok,List.map_toArray,List.map_cons,List.map_nil,hs,hx,hr]
  · rw [List.length_append,List.map_append,Qej,←Qke]; exact h2
section
variable {ds : List Deferred} {P : Program} {ops : Array Oper} {Q : Exit → Act → World → Prop} {rest : List Oper} {o : Oper} {N : Nat} {L : Env} {W : World}
theorem QiC {T : TypeId} (s x:Operand) (t u:TypeId) (ho:o.op=.call { callee:=.builtin .append,args:=#[s,x],argTypes:=#[t,u] })
    (ht:P.underlying t=some (.slice T)) (hu:P.underlying u=some .string) (hi:(P.info? T).map (fun i=>(i.zero,i.size,i.bytes))=some (some (.int .u8 0),1,1)) (d:Nat) (hd:o.dst=some d) (hg:Qcd ops o N L=some true) {v:Value} {xs:List Int} {lab:ByteArray} {V:World}
    (hs:Rely.look (envN N L) s=v) (hx:Rely.look (envN N L) x=.string lab)
    (h:OwnN .u8 T V.heap.size xs v W) (hn:xs.length+(strB lab).length≤1000000000) (hV:Ext V W)
    (kk:∀ (z:Value) (W':World),OwnN .u8 T V.heap.size (xs++strB lab) z W'→Ext V W'→Below V.heap.size W W'→WL P ops Q rest (Qap ds N ((d,z)::L)) W'):WL P ops Q (o::rest) (Qap ds N L) W:=by
  obtain ⟨v',W',h1,h2,h3⟩:=QnB (ρ:=Rely.look (envN N L)) (o:=o) (W:=W) s x t u ho ht hu hi hs hx h hn hV.size
  exact QbN _ _ d hd hg h1 (kk v' W' h2 (Qmb hV h h3) ⟨h3.os,h3.tape,h3.output,h3.size,fun i hi=>h3.block i (qL hi hV.size) (fun q=>by have:=h.ge q.symm; omega)⟩)
end
theorem shrN (a : Nat) (s:Int) (c:Nat) (h:(2:Int)^min s.toNat IntKind.i64.bits=(c:Int)):((a:Nat):Int).fdiv (2^min s.toNat IntKind.i64.bits)=((a/c:Nat):Int):=by
  rw [h,Int.fdiv_eq_ediv_of_nonneg _ (by omega)]; exact (Int.natCast_ediv a c).symm
theorem Qjk (a b:Nat) (h:a%256=b):IntKind.u8.wrap ((a:Nat):Int)=((b:Nat):Int):=by rw [QoX,h]
def Qfg (lab : List Int) (n:Nat):List Int:=[((n/256:Nat):Int),((n%256:Nat):Int),((lab.length:Nat):Int)]
def Qir (c : Nat):List Int:=[((c/16777216:Nat):Int),((c/65536%256:Nat):Int),((c/256%256:Nat):Int),((c%256:Nat):Int)]
def infoL (lab ctx:List Int) (n:Nat):List Int:=Qfg lab n++lab++Qir ctx.length++ctx
theorem QlM (lab ctx:List Int) (n:Nat):(infoL lab ctx n).length=lab.length+ctx.length+7:=by
  unfold infoL Qfg Qir
  simp only [List.length_append,List.length_cons,List.length_nil]; omega
theorem Qjc (lab ctx:List Int) (n:Nat) (hl:Qag lab) (hc:Qag ctx) (h1:lab.length≤255) (h2:ctx.length≤65536) (h3:n≤8160):Qag (infoL lab ctx n):=by
  unfold infoL Qfg Qir
  refine bytes_app (bytes_app (bytes_app ?_ hl) ?_) hc
  · intro x hx
    simp only [List.mem_cons,List.not_mem_nil,or_false] at hx
    omega
  · intro x hx
    simp only [List.mem_cons,List.not_mem_nil,or_false] at hx
    omega
theorem QpK (sec ctx:List Int) (s:ByteArray) (v2:Value) (B2:Nat) (tc tq:TypeId) (w:World) (hc:w.heap[1]? = some (.cells (ints .u64 Qca) tc)) (hq:w.heap[0]? = some (.cells (ints .u64 Qbj) tq)) (hsl:sec.length=32) (hsb:Qag sec) (hxb:Qag ctx) (hx:RdK .u8 B2 ctx v2 w) (n:Nat) (hn:n≤8160) (hl:(strB s).length≤255) (hc2:ctx.length≤65536):Calls Tryd.prog 28 #[.agg (ints .u8 sec),.string s,v2,.int .i64 ((n:Nat):Int)] w (QcB w (fun v W=>∃ u,v=.tuple #[u,.nilIface]∧OwnN .u8 5 w.heap.size (kx sec (infoL (strB s) ctx n) n) u W)):=by
  obtain ⟨a_ctx,c_ctx,rfl,-⟩:=id hx
  refine enter 75 [(0,.agg (ints .u8 (sec))),(1,.string s),(2,.slice a_ctx ctx.length c_ctx),(3,.int .i64 ((n:Nat):Int))] Tryd.func28 rfl rfl (by kernel_rfl) rfl <| sgC fun K3 hK3=>Qaj (ints .u8 (sec)) 61 4 rfl (by kernel_rfl) (by kernel_rfl) fun g4 W1 l4 e1 r4_1=>?_
  have x1:=Ext.tr (Rely.Ext.refl w) e1
  have b4:=qT (Rely.Ext.refl w).size l4
  refine Qad (.slice none 0 0) 8 rfl (by kernel_rfl) (by kernel_rfl) <| Qad (.nilIface) 9 rfl (by kernel_rfl) (by kernel_rfl) <| sgN hK3 <| wp_seq_k fun K5 hK5=>sgC fun K6 hK6=>Qad (.int .i64 ((n:Nat):Int)) 12 rfl (by kernel_rfl) (by kernel_rfl) <| Qad (.bool false) 13 rfl (by kernel_rfl) (Qal (u:=.bool (decide (((n:Nat):Int)<0))) (by kernel_rfl) (congrArg Value.bool (decide_eq_false (by omega)))) <| Qad (.bool false) 14 rfl (by kernel_rfl) (by kernel_rfl) <| Qad (.int .i64 ((n:Nat):Int)) 15 rfl (by kernel_rfl) (by kernel_rfl) <| Qad (.bool false) 16 rfl (by kernel_rfl) (Qal (u:=.bool (decide (((n:Nat):Int)>8160))) (by kernel_rfl) (congrArg Value.bool (decide_eq_false (by omega)))) ?_
  refine Qad (.bool false) 17 rfl (by kernel_rfl) (by kernel_rfl) <| Qad (.bool false) 18 rfl (by kernel_rfl) (by kernel_rfl) <| Qad (.string s) 19 rfl (by kernel_rfl) (by kernel_rfl) <| Qad (.int .i64 (((strB s).length:Nat):Int)) 20 rfl (by kernel_rfl) (Qal (u:=.int .i64 ((s.size:Nat):Int)) (by kernel_rfl) (congrArg (fun z:Nat=>Value.int .i64 (z:Int)) (Qej s).symm)) <| Qad (.bool false) 21 rfl (by kernel_rfl) (Qal (u:=.bool (decide ((((strB s).length:Nat):Int)>255))) (by kernel_rfl) (congrArg Value.bool (decide_eq_false (by omega)))) <| Qad (.bool false) 22 rfl (by kernel_rfl) (by kernel_rfl) <| Qad (.bool false) 23 rfl (by kernel_rfl) (by kernel_rfl) <| Qad (.slice a_ctx ctx.length c_ctx) 24 rfl (by kernel_rfl) (by kernel_rfl) <| Qad (.int .i64 ((ctx.length:Nat):Int)) 25 rfl (by kernel_rfl) (by kernel_rfl) <| Qad (.bool false) 26 rfl (by kernel_rfl) (Qal (u:=.bool (decide (((ctx.length:Nat):Int)>65536))) (by kernel_rfl) (congrArg Value.bool (decide_eq_false (by omega)))) ?_
  refine Qad (.bool false) 27 rfl (by kernel_rfl) (by kernel_rfl) <| sgN hK6 <| cond_false (by kernel_rfl) <| wp_skip <| hK5 _ _ <| sgC fun K7 hK7=>Qad (.string s) 29 rfl (by kernel_rfl) (by kernel_rfl) <| Qad (.int .i64 (((strB s).length:Nat):Int)) 30 rfl (by kernel_rfl) (Qal (u:=.int .i64 ((s.size:Nat):Int)) (by kernel_rfl) (congrArg (fun z:Nat=>Value.int .i64 (z:Int)) (Qej s).symm)) <| Qad (.int .i64 ((7+((strB s).length):Nat):Int)) 31 rfl (by kernel_rfl) (Qal (u:=.int .i64 (IntKind.i64.wrap (7+(((strB s).length:Nat):Int)))) (by kernel_rfl) (congrArg (Value.int .i64) (i64n _ _ (by omega) (by omega)))) <| Qad (.slice a_ctx ctx.length c_ctx) 32 rfl (by kernel_rfl) (by kernel_rfl) ?_
  refine Qad (.int .i64 ((ctx.length:Nat):Int)) 33 rfl (by kernel_rfl) (by kernel_rfl) <| Qad (.int .i64 (((7+((strB s).length))+ctx.length:Nat):Int)) 34 rfl (by kernel_rfl) (Qal (u:=.int .i64 (IntKind.i64.wrap (((7+((strB s).length):Nat):Int)+((ctx.length:Nat):Int)))) (by kernel_rfl) (congrArg (Value.int .i64) (i64n _ _ (by omega) (by omega)))) <| Qkk (ints .u8 (List.replicate (7+(strB s).length+ctx.length) 0)) 5 (7+(strB s).length+ctx.length) 35 rfl (by kernel_rfl) (Qg2 24 _ _ .i64 .i64 (7+(strB s).length+ctx.length) 5 rfl (by kernel_rfl) (by kernel_rfl) (by kernel_rfl) (by kernel_rfl) (by omega)) fun g8 W2 l8 e2 r8_2=>?_
  have x2:=Ext.tr x1 e2
  have b8:=qT x1.size l8
  have hz0:OwnN .u8 5 W1.heap.size [] (.slice (some ⟨g8,0,none⟩) 0 (7+(strB s).length+ctx.length)) W2:=Qo6 (n:=0) rfl l8 r8_2 (by rw [Qac,qZ]) (Nat.zero_le _) (by simp only [maxLen]; omega) rfl
  refine Qad (.slice (some ⟨g8,0,none⟩) 0 (7+(strB s).length+ctx.length)) 10 rfl (by kernel_rfl) (by kernel_rfl) <| sgN hK7 <| sgC fun K9 hK9=>Qad (.slice (some ⟨g8,0,none⟩) 0 (7+(strB s).length+ctx.length)) 36 rfl (by kernel_rfl) (by kernel_rfl) <| Qad (.int .i64 ((n:Nat):Int)) 37 rfl (by kernel_rfl) (by kernel_rfl) <| Qad (.int .i64 (((n/256:Nat):Int))) 38 rfl (by kernel_rfl) (Qbc .shr _ _ _ _ .i64 .u64 _ _ _ rfl (by kernel_rfl) (by kernel_rfl) (Qdf _ _ _ _ _ _ (by decide) (shrN n 8 256 (by decide)))) <| Qad (.int .u8 (((n/256:Nat):Int))) 39 rfl (by kernel_rfl) (Qal (u:=.int .u8 (IntKind.u8.wrap (((n/256:Nat):Int)))) (by kernel_rfl) (congrArg (Value.int .u8) (Qjk (n/256) (n/256) (by omega)))) <| Qad (.int .i64 ((n:Nat):Int)) 40 rfl (by kernel_rfl) (by kernel_rfl) <| Qad (.int .u8 (((n%256:Nat):Int))) 41 rfl (by kernel_rfl) (Qal (u:=.int .u8 (IntKind.u8.wrap ((n:Nat):Int))) (by kernel_rfl) (congrArg (Value.int .u8) (Qjk (n) (n%256) (by omega)))) <| Qad (.string s) 42 rfl (by kernel_rfl) (by kernel_rfl) ?_
  refine Qad (.int .i64 (((strB s).length:Nat):Int)) 43 rfl (by kernel_rfl) (Qal (u:=.int .i64 ((s.size:Nat):Int)) (by kernel_rfl) (congrArg (fun z:Nat=>Value.int .i64 (z:Int)) (Qej s).symm)) <| Qad (.int .u8 ((((strB s).length:Nat):Int))) 44 rfl (by kernel_rfl) (Qal (u:=.int .u8 (IntKind.u8.wrap (((strB s).length:Nat):Int))) (by kernel_rfl) (congrArg (Value.int .u8) (Qjk ((strB s).length) ((strB s).length) (by omega)))) <| Qbw (ints .u8 ([(((n/256:Nat):Int)),(((n%256:Nat):Int)),((((strB s).length:Nat):Int))])) 5 3 45 rfl (by kernel_rfl) (by kernel_rfl) fun g10 W3 l10 e3 r10_3=>?_
  have b10:=qT x2.size l10
  refine QbO (k:=.u8) (T:=5) (xs:=[]) (ys:=[(((n/256:Nat):Int)),(((n%256:Nat):Int)),((((strB s).length:Nat):Int))]) (V:=W1) 1 (.tmp 36) (.tmp 45) 24 rfl (by kernel_rfl) (by kernel_rfl) (by decide) 46 rfl (by kernel_rfl) (by kernel_rfl) (by kernel_rfl) (hz0.ext e3) (QbB (xs:=[(((n/256:Nat):Int)),(((n%256:Nat):Int)),((((strB s).length:Nat):Int))]) (n:=3) rfl r10_3 (Qa4 r10_3) (show 3≤maxLen from by decide)) (by have:(Qfg (strB s) n).length=3:=rfl; have:(Qir ctx.length).length=4:=rfl; simp only [List.length_append,List.length_cons,List.length_nil]; omega) (Rely.Ext.trans (Rely.Ext.trans (Rely.Ext.refl W1) e2) e3) fun z1 W4 f12 y4 l4=>?_
  have hu14:OwnN .u8 5 W1.heap.size (Qfg (strB s) n) z1 W4:=f12
  refine Qad (z1) 10 rfl (by kernel_rfl) (by kernel_rfl) <| sgN hK9 <| sgC fun K15 hK15=>Qad (z1) 47 rfl (by kernel_rfl) (by kernel_rfl) <| Qad (.string s) 48 rfl (by kernel_rfl) (by kernel_rfl) <| QiC (T:=5) (xs:=Qfg (strB s) n) (lab:=s) (V:=W1) (.tmp 47) (.tmp 48) 24 9 rfl (by kernel_rfl) (by kernel_rfl) (by kernel_rfl) 49 rfl (by kernel_rfl) (by kernel_rfl) (by kernel_rfl) hu14 (by have:(Qfg (strB s) n).length=3:=rfl; (try simp only [List.length_append,List.length_cons,List.length_nil]); omega) y4 fun z2 W5 f16 y5 l5=>?_
  have x5:=Ext.low (Ext.low (Ext.tr x2 e3) l4 x1.size) l5 x1.size
  have hu17:OwnN .u8 5 W1.heap.size (Qfg (strB s) n++strB s) z2 W5:=f16
  refine Qad (z2) 10 rfl (by kernel_rfl) (by kernel_rfl) <| sgN hK15 <| sgC fun K18 hK18=>Qad (.slice a_ctx ctx.length c_ctx) 50 rfl (by kernel_rfl) (by kernel_rfl) <| Qad (.int .i64 ((ctx.length:Nat):Int)) 51 rfl (by kernel_rfl) (by kernel_rfl) <| Qad (.int .i64 ((ctx.length:Nat):Int)) 11 rfl (by kernel_rfl) (by kernel_rfl) <| sgN hK18 <| sgC fun K19 hK19=>Qad (z2) 52 rfl (by kernel_rfl) (by kernel_rfl) <| Qad (.int .i64 ((ctx.length:Nat):Int)) 53 rfl (by kernel_rfl) (by kernel_rfl) ?_
  refine Qad (.int .i64 (((ctx.length/16777216:Nat):Int))) 54 rfl (by kernel_rfl) (Qbc .shr _ _ _ _ .i64 .u64 _ _ _ rfl (by kernel_rfl) (by kernel_rfl) (Qdf _ _ _ _ _ _ (by decide) (shrN ctx.length 24 16777216 (by decide)))) <| Qad (.int .u8 (((ctx.length/16777216:Nat):Int))) 55 rfl (by kernel_rfl) (Qal (u:=.int .u8 (IntKind.u8.wrap (((ctx.length/16777216:Nat):Int)))) (by kernel_rfl) (congrArg (Value.int .u8) (Qjk (ctx.length/16777216) (ctx.length/16777216) (by omega)))) <| Qad (.int .i64 ((ctx.length:Nat):Int)) 56 rfl (by kernel_rfl) (by kernel_rfl) <| Qad (.int .i64 (((ctx.length/65536:Nat):Int))) 57 rfl (by kernel_rfl) (Qbc .shr _ _ _ _ .i64 .u64 _ _ _ rfl (by kernel_rfl) (by kernel_rfl) (Qdf _ _ _ _ _ _ (by decide) (shrN ctx.length 16 65536 (by decide)))) <| Qad (.int .u8 (((ctx.length/65536%256:Nat):Int))) 58 rfl (by kernel_rfl) (Qal (u:=.int .u8 (IntKind.u8.wrap (((ctx.length/65536:Nat):Int)))) (by kernel_rfl) (congrArg (Value.int .u8) (Qjk (ctx.length/65536) (ctx.length/65536%256) (by omega)))) <| Qad (.int .i64 ((ctx.length:Nat):Int)) 59 rfl (by kernel_rfl) (by kernel_rfl) <| Qad (.int .i64 (((ctx.length/256:Nat):Int))) 60 rfl (by kernel_rfl) (Qbc .shr _ _ _ _ .i64 .u64 _ _ _ rfl (by kernel_rfl) (by kernel_rfl) (Qdf _ _ _ _ _ _ (by decide) (shrN ctx.length 8 256 (by decide)))) <| Qad (.int .u8 (((ctx.length/256%256:Nat):Int))) 61 rfl (by kernel_rfl) (Qal (u:=.int .u8 (IntKind.u8.wrap (((ctx.length/256:Nat):Int)))) (by kernel_rfl) (congrArg (Value.int .u8) (Qjk (ctx.length/256) (ctx.length/256%256) (by omega)))) <| Qad (.int .i64 ((ctx.length:Nat):Int)) 62 rfl (by kernel_rfl) (by kernel_rfl) <| Qad (.int .u8 (((ctx.length%256:Nat):Int))) 63 rfl (by kernel_rfl) (Qal (u:=.int .u8 (IntKind.u8.wrap ((ctx.length:Nat):Int))) (by kernel_rfl) (congrArg (Value.int .u8) (Qjk (ctx.length) (ctx.length%256) (by omega)))) ?_
  refine Qbw (ints .u8 ([(((ctx.length/16777216:Nat):Int)),(((ctx.length/65536%256:Nat):Int)),(((ctx.length/256%256:Nat):Int)),(((ctx.length%256:Nat):Int))])) 5 4 64 rfl (by kernel_rfl) (by kernel_rfl) fun g20 W6 l20 e6 r20_6=>?_
  have b20:=qT x5.size l20
  refine QbO (k:=.u8) (T:=5) (xs:=Qfg (strB s) n++strB s) (ys:=[(((ctx.length/16777216:Nat):Int)),(((ctx.length/65536%256:Nat):Int)),(((ctx.length/256%256:Nat):Int)),(((ctx.length%256:Nat):Int))]) (V:=W1) 1 (.tmp 52) (.tmp 64) 24 rfl (by kernel_rfl) (by kernel_rfl) (by decide) 65 rfl (by kernel_rfl) (by kernel_rfl) (by kernel_rfl) (hu17.ext e6) (QbB (xs:=[(((ctx.length/16777216:Nat):Int)),(((ctx.length/65536%256:Nat):Int)),(((ctx.length/256%256:Nat):Int)),(((ctx.length%256:Nat):Int))]) (n:=4) rfl r20_6 (Qa4 r20_6) (show 4≤maxLen from by decide)) (by have:(Qfg (strB s) n).length=3:=rfl; have:(Qir ctx.length).length=4:=rfl; simp only [List.length_append,List.length_cons,List.length_nil]; omega) (Rely.Ext.trans y5 e6) fun z3 W7 f22 y7 l7=>?_
  have x7:=Ext.low (Ext.tr x5 e6) l7 x1.size
  have hu24:OwnN .u8 5 W1.heap.size ((Qfg (strB s) n++strB s)++Qir ctx.length) z3 W7:=f22
  refine Qad (z3) 10 rfl (by kernel_rfl) (by kernel_rfl) <| sgN hK19 <| sgC fun K25 hK25=>Qad (z3) 66 rfl (by kernel_rfl) (by kernel_rfl) <| Qad (.slice a_ctx ctx.length c_ctx) 67 rfl (by kernel_rfl) (by kernel_rfl) <| QbO (k:=.u8) (T:=5) (xs:=(Qfg (strB s) n++strB s)++Qir ctx.length) (ys:=ctx) (V:=W1) 1 (.tmp 66) (.tmp 67) 24 rfl (by kernel_rfl) (by kernel_rfl) (by decide) 68 rfl (by kernel_rfl) (by kernel_rfl) (by kernel_rfl) hu24 (RdK.ext hx x7) (by have:(Qfg (strB s) n).length=3:=rfl; have:(Qir ctx.length).length=4:=rfl; simp only [List.length_append,List.length_cons,List.length_nil]; omega) y7 fun z4 W8 f26 y8 l8=>?_
  have x8:=Ext.low x7 l8 x1.size
  have hu28:OwnN .u8 5 W1.heap.size (infoL (strB s) ctx n) z4 W8:=f26
  refine Qad (z4) 10 rfl (by kernel_rfl) (by kernel_rfl) <| sgN hK25 <| sgC fun K29 hK29=>Qad (.slice (some ⟨g4,0,none⟩) 32 32) 69 rfl (by kernel_rfl) (by kernel_rfl) <| Qad (z4) 70 rfl (by kernel_rfl) (by kernel_rfl) <| Qad (.int .i64 ((n:Nat):Int)) 71 rfl (by kernel_rfl) (by kernel_rfl) ?_
  obtain ⟨ai30,ci30,hai30,-⟩:=id (OwnN.rd hu28)
  have r1_1:=(Qaa hc e1)
  have r2_1:=(Qaa hq e1)
  have r4_8:=(Qb7 l8 (Qb7 l7 (Qaa (Qb7 l5 (Qb7 l4 (Qaa (Qaa r4_1 e2) e3) (Qa4 r4_1)) (Qa4 r4_1)) e6) (Qa4 r4_1)) (Qa4 r4_1))
  refine QaA (fun v W'=>(fun v W=>∃ u,v=.tuple #[u,.nilIface]∧OwnN .u8 5 W8.heap.size (kx sec (infoL (strB s) ctx n) n) u W) v W'∧Ext W8 W') 51 #[.slice (some ⟨g4,0,none⟩) 32 32,z4,.int .i64 ((n:Nat):Int)] 72 rfl (by kernel_rfl) (by kernel_rfl) ((Qni sec (infoL (strB s) ctx n) _ _ _ _ n tc tq _ (Qb7 l8 (Qb7 l7 (Qaa (Qb7 l5 (Qb7 l4 (Qaa (Qaa r1_1 e2) e3) (Qa4 r1_1)) (Qa4 r1_1)) e6) (Qa4 r1_1)) (Qa4 r1_1)) (Qb7 l8 (Qb7 l7 (Qaa (Qb7 l5 (Qb7 l4 (Qaa (Qaa r2_1 e2) e3) (Qa4 r2_1)) (Qa4 r2_1)) e6) (Qa4 r2_1)) (Qa4 r2_1)) hn (by omega) (by rw [QlM]; omega) hsb (Qjc _ _ _ (Qkf s) hxb hl hc2 hn) (QbB (xs:=sec) (n:=32) hsl r4_8 (Qa4 r4_8) (show 32≤maxLen from by decide)) (OwnN.rd hu28)).mono (by rintro e w' ⟨v,rfl,e1,hv⟩; exact ⟨v,rfl,hv,e1⟩)) fun vv31 W9 hh31=>?_
  obtain ⟨hv31,e9⟩:=hh31
  obtain ⟨uu,rfl,huu⟩:=hv31
  refine Qad (uu) 73 rfl (by kernel_rfl) (by kernel_rfl) <| Qad (.nilIface) 74 rfl (by kernel_rfl) (by kernel_rfl) <| Qad (uu) 8 rfl (by kernel_rfl) (by kernel_rfl) <| Qad (.nilIface) 9 rfl (by kernel_rfl) (by kernel_rfl) <| sgN hK29 <| wp_ret ?_
  repeat (first | with_reducible refine goR1 ?_ | with_reducible refine goR2 ?_)
  exact (show bodyPost _ _ _ .ret _ _ from ret2 (uu) (.nilIface) rfl (QaM (by kernel_rfl)) (QaM (by kernel_rfl)) ⟨_,rfl,(Ext.tr x8 e9),uu,rfl,OwnN.base x8.size huu⟩)
end Go.Proofs.YtmljnchhgkfemaaDoor.Sha
end
section
namespace Go.Proofs.YtmljnchhgkfemaaDoor.Cha
open Go Go.RowKit
open Rely Auto Own Sha
open Sha
section
variable {P : Program} {fn : Func} {R : Ending → World → Prop} {N : Nat} {L : Env} {w : World}
theorem QhO {r s t q:ResultVar} {u v x y:Value} (hr:fn.results=#[r,s,t,q]) (h:QdA P w N L r u) (k:QdA P w N L s v) (l:QdA P w N L t x) (m:QdA P w N L q y):(results fn (Qap [] N L).tmps).run P w=.ok (.tuple #[u,v,x,y]) w:=by
  rw [Qeo,hr]
  simp [QcH h,QcH k,QcH l,QcH m,Sem.run_bind]
theorem ret4 {r s t q:ResultVar} (u v x y:Value) (hr:fn.results=#[r,s,t,q]) (h:QdA P w N L r u) (k:QdA P w N L s v) (l:QdA P w N L t x) (m:QdA P w N L q y) (z:R (.returned (.tuple #[u,v,x,y])) w):bodyPost P fn R .ret (Qap [] N L) w:=bodyPost_ret (QhO hr h k l m) rfl z
end
def rl (x : Wd) (n:Nat):Wd:=x<<<n|||x>>>(32-n)
theorem Qpn (n : Nat) (hn:n<32):IntKind.u64.wrap ((n:Nat):Int)=((n:Nat):Int):=by
  have:∀ z:Int,IntKind.u64.wrap z=z%2^64:=fun _=>rfl
  rw [this]; omega
theorem Qqb : ∀ n:Nat,n<32→bits .and .u64 ((n:Nat):Int) 31=((n:Nat):Int):=by
  have h:∀ n:Fin 32,bits .and .u64 ((n.1:Nat):Int) 31=((n.1:Nat):Int):=by decide
  intro n hn
  exact h ⟨n,hn⟩
theorem Qm5 (n : Nat) (hn:n<32):IntKind.u64.wrap (32-((n:Nat):Int))=((32-n:Nat):Int):=by
  have:∀ z:Int,IntKind.u64.wrap z=z%2^64:=fun _=>rfl
  rw [this]; omega
def qA (a b:Wd):Wd:=a+b
def qD (a b d:Wd):Wd:=rl (d^^^(a+b)) 16
def qC (a b c d:Wd):Wd:=c+qD a b d
def qB (a b c d:Wd):Wd:=rl (b^^^qC a b c d) 12
def qA2 (a b c d:Wd):Wd:=qA a b+qB a b c d
def qD2 (a b c d:Wd):Wd:=rl (qD a b d^^^qA2 a b c d) 8
def qC2 (a b c d:Wd):Wd:=qC a b c d+qD2 a b c d
def qB2 (a b c d:Wd):Wd:=rl (qB a b c d^^^qC2 a b c d) 7
theorem rotL (x : Wd) (n:Nat) (m:Int) (hm:m=(n:Int)) (hn:n<32) (w:World):Calls Tryd.prog 82 #[.int .u32 (wv x),.int .i64 m] w (Ret w (.int .u32 (wv (rl x n)))):=by
  subst hm
  refine enter 17 [(0,.int .u32 (wv x)),(1,.int .i64 ((n:Nat):Int))] Tryd.func82 rfl rfl kj rfl <| sgB kj <| sgC fun K2 hK2=>sg 1 kj <| Qad (.int .u64 (((n:Nat):Int))) 7 rfl kj (Qal (u:=.int .u64 (IntKind.u64.wrap ((n:Nat):Int))) kj (congrArg (Value.int .u64) (Qpn n hn))) <| Qad (.int .u64 (((n:Nat):Int))) 8 rfl kj (Qal (u:=.int .u64 (bits .and .u64 (((n:Nat):Int)) (31))) kj (congrArg (Value.int .u64) (Qqb n hn))) <| sg 1 kj <| sgN hK2 <| sgC fun K3 hK3=>sg 2 kj ?_
  refine Qad (.int .u32 (wv (x<<<n))) 11 rfl kj (Qbc .shl _ _ _ _ .u32 .u64 _ _ _ rfl kj kj (Qgw _ _ _ _ _ _ (by omega) (Qka x _ n rfl (by omega)))) <| sg 2 kj <| Qad (.int .u64 (((32-n:Nat):Int))) 14 rfl kj (Qal (u:=.int .u64 (IntKind.u64.wrap (32-((n:Nat):Int)))) kj (congrArg (Value.int .u64) (Qm5 n hn))) <| Qad (.int .u32 (wv (x>>>(32-n)))) 15 rfl kj (Qbc .shr _ _ _ _ .u32 .u64 _ _ _ rfl kj kj (Qdf _ _ _ _ _ _ (by omega) (QjZ x _ (32-n) rfl (by omega)))) <| Qad (.int .u32 (wv (((x<<<n))|||((x>>>(32-n)))))) 16 rfl kj (Qal kj (congrArg (Value.int .u32) (w_or _ _))) <| sg 1 kj <| sgN hK3 <| wp_ret ?_
  repeat (first | with_reducible refine goR1 ?_ | with_reducible refine goR2 ?_)
  exact (show bodyPost _ _ _ .ret _ _ from ret1 (.int .u32 (wv (((x<<<n))|||((x>>>(32-n)))))) rfl (QaM kj) ⟨rfl,(Rely.Ext.refl w)⟩)
theorem QmE (a b c d:Wd) (w:World):Calls Tryd.prog 85 #[.int .u32 (wv a),.int .u32 (wv b),.int .u32 (wv c),.int .u32 (wv d)] w (Ret w (.tuple #[.int .u32 (wv (qA2 a b c d)),.int .u32 (wv (qB2 a b c d)),.int .u32 (wv (qC2 a b c d)),.int .u32 (wv (qD2 a b c d))])):=by
  refine enter 44 [(0,.int .u32 (wv a)),(1,.int .u32 (wv b)),(2,.int .u32 (wv c)),(3,.int .u32 (wv d))] Tryd.func85 rfl rfl kj rfl <| sgB kj <| sgC fun K2 hK2=>sg 2 kj <| Qad (.int .u32 (wv ((a)+(b)))) 14 rfl kj (Qal kj (congrArg (Value.int .u32) (Qez _ _))) <| sg 1 kj <| sgN hK2 <| sgC fun K3 hK3=>sg 2 kj <| Qad (.int .u32 (wv ((d)^^^(((a)+(b)))))) 17 rfl kj (Qal kj (congrArg (Value.int .u32) (w_xor _ _))) ?_
  refine Qao (.int .u32 (wv (rl ((d)^^^(((a)+(b)))) 16))) 82 #[.int .u32 (wv ((d)^^^(((a)+(b))))),.int .i64 16] 18 rfl kj kj ((rotL ((d)^^^(((a)+(b)))) 16 16 rfl (by decide)) _) fun W1 e1=>sg 1 kj <| sgN hK3 <| sgC fun K4 hK4=>sg 2 kj <| Qad (.int .u32 (wv ((c)+((rl ((d)^^^(((a)+(b)))) 16))))) 21 rfl kj (Qal kj (congrArg (Value.int .u32) (Qez _ _))) <| sg 1 kj <| sgN hK4 <| sgC fun K5 hK5=>sg 2 kj ?_
  refine Qad (.int .u32 (wv ((b)^^^(((c)+((rl ((d)^^^(((a)+(b)))) 16))))))) 24 rfl kj (Qal kj (congrArg (Value.int .u32) (w_xor _ _))) <| Qao (.int .u32 (wv (rl ((b)^^^(((c)+((rl ((d)^^^(((a)+(b)))) 16))))) 12))) 82 #[.int .u32 (wv ((b)^^^(((c)+((rl ((d)^^^(((a)+(b)))) 16)))))),.int .i64 12] 25 rfl kj kj ((rotL ((b)^^^(((c)+((rl ((d)^^^(((a)+(b)))) 16))))) 12 12 rfl (by decide)) _) fun W2 e2=>sg 1 kj <| sgN hK5 <| sgC fun K6 hK6=>sg 2 kj <| Qad (.int .u32 (wv ((((a)+(b)))+((rl ((b)^^^(((c)+((rl ((d)^^^(((a)+(b)))) 16))))) 12))))) 28 rfl kj (Qal kj (congrArg (Value.int .u32) (Qez _ _))) <| sg 1 kj <| sgN hK6 <| sgC fun K7 hK7=>?_
  refine sg 2 kj <| Qad (.int .u32 (wv (((rl ((d)^^^(((a)+(b)))) 16))^^^(((((a)+(b)))+((rl ((b)^^^(((c)+((rl ((d)^^^(((a)+(b)))) 16))))) 12))))))) 31 rfl kj (Qal kj (congrArg (Value.int .u32) (w_xor _ _))) <| Qao (.int .u32 (wv (rl (((rl ((d)^^^(((a)+(b)))) 16))^^^(((((a)+(b)))+((rl ((b)^^^(((c)+((rl ((d)^^^(((a)+(b)))) 16))))) 12))))) 8))) 82 #[.int .u32 (wv (((rl ((d)^^^(((a)+(b)))) 16))^^^(((((a)+(b)))+((rl ((b)^^^(((c)+((rl ((d)^^^(((a)+(b)))) 16))))) 12)))))),.int .i64 8] 32 rfl kj kj ((rotL (((rl ((d)^^^(((a)+(b)))) 16))^^^(((((a)+(b)))+((rl ((b)^^^(((c)+((rl ((d)^^^(((a)+(b)))) 16))))) 12))))) 8 8 rfl (by decide)) _) fun W3 e3=>sg 1 kj <| sgN hK7 <| sgC fun K8 hK8=>sg 2 kj <| Qad (.int .u32 (wv ((((c)+((rl ((d)^^^(((a)+(b)))) 16))))+((rl (((rl ((d)^^^(((a)+(b)))) 16))^^^(((((a)+(b)))+((rl ((b)^^^(((c)+((rl ((d)^^^(((a)+(b)))) 16))))) 12))))) 8))))) 35 rfl kj (Qal kj (congrArg (Value.int .u32) (Qez _ _))) <| sg 1 kj <| sgN hK8 ?_
  refine sgC fun K9 hK9=>sg 2 kj <| Qad (.int .u32 (wv (((rl ((b)^^^(((c)+((rl ((d)^^^(((a)+(b)))) 16))))) 12))^^^(((((c)+((rl ((d)^^^(((a)+(b)))) 16))))+((rl (((rl ((d)^^^(((a)+(b)))) 16))^^^(((((a)+(b)))+((rl ((b)^^^(((c)+((rl ((d)^^^(((a)+(b)))) 16))))) 12))))) 8))))))) 38 rfl kj (Qal kj (congrArg (Value.int .u32) (w_xor _ _))) <| Qao (.int .u32 (wv (rl (((rl ((b)^^^(((c)+((rl ((d)^^^(((a)+(b)))) 16))))) 12))^^^(((((c)+((rl ((d)^^^(((a)+(b)))) 16))))+((rl (((rl ((d)^^^(((a)+(b)))) 16))^^^(((((a)+(b)))+((rl ((b)^^^(((c)+((rl ((d)^^^(((a)+(b)))) 16))))) 12))))) 8))))) 7))) 82 #[.int .u32 (wv (((rl ((b)^^^(((c)+((rl ((d)^^^(((a)+(b)))) 16))))) 12))^^^(((((c)+((rl ((d)^^^(((a)+(b)))) 16))))+((rl (((rl ((d)^^^(((a)+(b)))) 16))^^^(((((a)+(b)))+((rl ((b)^^^(((c)+((rl ((d)^^^(((a)+(b)))) 16))))) 12))))) 8)))))),.int .i64 7] 39 rfl kj kj ((rotL (((rl ((b)^^^(((c)+((rl ((d)^^^(((a)+(b)))) 16))))) 12))^^^(((((c)+((rl ((d)^^^(((a)+(b)))) 16))))+((rl (((rl ((d)^^^(((a)+(b)))) 16))^^^(((((a)+(b)))+((rl ((b)^^^(((c)+((rl ((d)^^^(((a)+(b)))) 16))))) 12))))) 8))))) 7 7 rfl (by decide)) _) fun W4 e4=>sg 1 kj <| sgN hK9 <| sgB kj <| wp_ret ?_
  repeat (first | with_reducible refine goR1 ?_ | with_reducible refine goR2 ?_)
  exact (show bodyPost _ _ _ .ret _ _ from ret4 (.int .u32 (wv ((((a)+(b)))+((rl ((b)^^^(((c)+((rl ((d)^^^(((a)+(b)))) 16))))) 12))))) (.int .u32 (wv (rl (((rl ((b)^^^(((c)+((rl ((d)^^^(((a)+(b)))) 16))))) 12))^^^(((((c)+((rl ((d)^^^(((a)+(b)))) 16))))+((rl (((rl ((d)^^^(((a)+(b)))) 16))^^^(((((a)+(b)))+((rl ((b)^^^(((c)+((rl ((d)^^^(((a)+(b)))) 16))))) 12))))) 8))))) 7))) (.int .u32 (wv ((((c)+((rl ((d)^^^(((a)+(b)))) 16))))+((rl (((rl ((d)^^^(((a)+(b)))) 16))^^^(((((a)+(b)))+((rl ((b)^^^(((c)+((rl ((d)^^^(((a)+(b)))) 16))))) 12))))) 8))))) (.int .u32 (wv (rl (((rl ((d)^^^(((a)+(b)))) 16))^^^(((((a)+(b)))+((rl ((b)^^^(((c)+((rl ((d)^^^(((a)+(b)))) 16))))) 12))))) 8))) rfl (QaM kj) (QaM kj) (QaM kj) (QaM kj) ⟨rfl,(Ext.tr (Ext.tr (Ext.tr (Ext.tr (Rely.Ext.refl w) e1) e2) e3) e4)⟩)
theorem Qjj (nonce : List Int) (v:Value) (B:Nat) (number:Int) (w:World) (hn:RdK .u8 B nonce v w) (h:nonce.length=12) (h1:0≤number) (h2:number≤4294967295):Calls Tryd.prog 53 #[v,.int .i64 number] w (Ret w (.nilIface)):=by
  obtain ⟨a_n,c_n,rfl,-⟩:=id hn
  refine enter 16 [(0,.slice a_n nonce.length c_n),(1,.int .i64 number)] Tryd.func53 rfl rfl kj rfl <| sgB kj <| wp_seq_k fun K2 hK2=>sgC fun K3 hK3=>sg 2 kj <| Qad (.bool false) 7 rfl kj (Qal (u:=.bool ((((nonce.length:Nat):Int) != 12))) kj (congrArg Value.bool (by simp; omega))) ?_
  refine sgN hK3 <| cond_false kj <| wp_skip <| hK2 _ _ <| wp_seq_k fun K4 hK4=>sgC fun K5 hK5=>sg 1 kj <| Qad (.bool false) 10 rfl kj (Qal (u:=.bool (decide (number<0))) kj (congrArg Value.bool (decide_eq_false (by omega)))) <| sg 2 kj <| Qad (.bool false) 13 rfl kj (Qal (u:=.bool (decide (number>4294967295))) kj (congrArg Value.bool (decide_eq_false (by omega)))) ?_
  refine sg 1 kj <| sgN hK5 <| cond_false kj <| wp_skip <| hK4 _ _ <| sgB kj <| wp_ret ?_
  repeat (first | with_reducible refine goR1 ?_ | with_reducible refine goR2 ?_)
  exact (show bodyPost _ _ _ .ret _ _ from ret1 (.nilIface) rfl (QaM kj) ⟨rfl,(Rely.Ext.refl w)⟩)
theorem Qfr {k : IntKind} {B:Nat} {ys:List Int} {a:Option Addr} {n c:Nat} {W:World} (h:RdK k B ys (.slice a n c) W) (h0:0<ys.length):∃ g o,a=some ⟨g,o,none⟩∧g<B∧g<W.heap.size∧∀ i,i<ys.length→W.cell? ⟨g,o+i,none⟩=some (.int k (nth ys i)):=by
  obtain ⟨a',cap',e,h2,h3,h4,h5⟩:=h
  simp only [Value.slice.injEq] at e
  obtain ⟨rfl,-,-⟩:=e
  rcases h5 with h5 | ⟨g,o,q1,q2,q3,q4⟩
  · rw [h5] at h0; simp at h0
  · exact ⟨g,o,q1,q2,q3,q4⟩
theorem Qn5 (b : List Int) (i:Nat):IntKind.u32.wrap (nth b i)=wv (BitVec.ofInt 32 (nth b i)):=by rw [Sha.wrap32,Qf4]
def le4 (b : List Int):Wd:=BitVec.ofInt 32 (nth b 0)|||BitVec.ofInt 32 (nth b 1)<<<8|||BitVec.ofInt 32 (nth b 2)<<<16|||BitVec.ofInt 32 (nth b 3)<<<24
theorem Qpk (b : List Int) (v:Value) (B:Nat) (w:World) (hb:RdK .u8 B b v w) (hl:b.length=4):Calls Tryd.prog 84 #[v] w (Ret w (.int .u32 (wv (le4 b)))):=by
  obtain ⟨a_b,c_b,rfl,-⟩:=id hb
  obtain ⟨gb,ob,rfl,-,hgb,hcb⟩:=Qfr hb (by omega)
  refine enter 25 [(0,.slice (some ⟨gb,ob,none⟩) b.length c_b)] Tryd.func84 rfl rfl kj rfl <| sgB kj <| wp_seq_k fun K2 hK2=>Qbf 21 [⟨none,[(0,none)]⟩,⟨none,[(3,some 0)]⟩,⟨none,[(4,some 1)]⟩,⟨none,[(5,some 2)]⟩,⟨none,[(0,none)]⟩,⟨none,[(7,some 4)]⟩,⟨none,[(8,some 5)]⟩,⟨none,[(9,some 6)]⟩,⟨none,[(10,some 7)]⟩,⟨none,[(6,some 3),(11,some 8)]⟩,⟨none,[(0,none)]⟩,⟨none,[(13,some 10)]⟩,⟨none,[(14,some 11)]⟩,⟨none,[(15,some 12)]⟩,⟨none,[(16,some 13)]⟩,⟨none,[(12,some 9),(17,some 14)]⟩,⟨none,[(0,none)]⟩,⟨none,[(19,some 16)]⟩,⟨none,[(20,some 17)]⟩,⟨none,[(21,some 18)]⟩,⟨none,[(22,some 19)]⟩] kj kj fun F hF=>QaL (Qaq _) (.slice (some ⟨gb,ob,none⟩) b.length c_b) kj kj (fun W=>by kernel_rfl) <| QaL (Qaq _) (.pointer (some ⟨gb,ob+0,none⟩)) kj kj (fun W=>(QcI 24 _ _ .i64 (0) gb ob b.length c_b 5 rfl kj kj kj kj (by omega))) <| Qc8 (Qaq _) (.int .u8 (nth (b) (0))) kj kj (fun W hR=>(Qb1 5 _ _ (.int .u8 (nth (b) (0))) ((Below.cell (Rely.Ext.trans (Rely.Ext.trans (Rely.Ext.refl w) (Qai _)) hR) hgb).trans (hcb 0 (by omega))) rfl kj kj)) <| QaL (Qaq _) (.int .u32 (wv (BitVec.ofInt 32 (nth b 0)))) kj kj (fun W=>(Qal (u:=.int .u32 (IntKind.u32.wrap (nth (b) (0)))) kj (congrArg (Value.int .u32) (Qn5 b 0)))) <| QaL (Qaq _) (.slice (some ⟨gb,ob,none⟩) b.length c_b) kj kj (fun W=>by kernel_rfl) <| QaL (Qaq _) (.pointer (some ⟨gb,ob+1,none⟩)) kj kj (fun W=>(QcI 24 _ _ .i64 (1) gb ob b.length c_b 5 rfl kj kj kj kj (by omega))) ?_
  refine Qc8 (Qaq _) (.int .u8 (nth (b) (1))) kj kj (fun W hR=>(Qb1 5 _ _ (.int .u8 (nth (b) (1))) ((Below.cell (Rely.Ext.trans (Rely.Ext.trans (Rely.Ext.refl w) (Qai _)) hR) hgb).trans (hcb 1 (by omega))) rfl kj kj)) <| QaL (Qaq _) (.int .u32 (wv (BitVec.ofInt 32 (nth b 1)))) kj kj (fun W=>(Qal (u:=.int .u32 (IntKind.u32.wrap (nth (b) (1)))) kj (congrArg (Value.int .u32) (Qn5 b 1)))) <| QaL (Qaq _) (.int .u32 (wv (BitVec.ofInt 32 (nth b 1)<<<8))) kj kj (fun W=>(Qbc .shl _ _ _ _ .u32 .u64 _ _ _ rfl kj kj (Qgw _ _ _ _ _ _ (by decide) (Qka _ _ 8 rfl (by decide))))) <| QaL (Qaq _) (.int .u32 (wv (((BitVec.ofInt 32 (nth b 0)))|||((BitVec.ofInt 32 (nth b 1)<<<8))))) kj kj (fun W=>(Qal kj (congrArg (Value.int .u32) (w_or _ _)))) <| QaL (Qaq _) (.slice (some ⟨gb,ob,none⟩) b.length c_b) kj kj (fun W=>by kernel_rfl) <| QaL (Qaq _) (.pointer (some ⟨gb,ob+2,none⟩)) kj kj (fun W=>(QcI 24 _ _ .i64 (2) gb ob b.length c_b 5 rfl kj kj kj kj (by omega))) <| Qc8 (Qaq _) (.int .u8 (nth (b) (2))) kj kj (fun W hR=>(Qb1 5 _ _ (.int .u8 (nth (b) (2))) ((Below.cell (Rely.Ext.trans (Rely.Ext.trans (Rely.Ext.refl w) (Qai _)) hR) hgb).trans (hcb 2 (by omega))) rfl kj kj)) <| QaL (Qaq _) (.int .u32 (wv (BitVec.ofInt 32 (nth b 2)))) kj kj (fun W=>(Qal (u:=.int .u32 (IntKind.u32.wrap (nth (b) (2)))) kj (congrArg (Value.int .u32) (Qn5 b 2)))) <| QaL (Qaq _) (.int .u32 (wv (BitVec.ofInt 32 (nth b 2)<<<16))) kj kj (fun W=>(Qbc .shl _ _ _ _ .u32 .u64 _ _ _ rfl kj kj (Qgw _ _ _ _ _ _ (by decide) (Qka _ _ 16 rfl (by decide))))) <| QaL (Qaq _) (.int .u32 (wv (((((BitVec.ofInt 32 (nth b 0)))|||((BitVec.ofInt 32 (nth b 1)<<<8))))|||((BitVec.ofInt 32 (nth b 2)<<<16))))) kj kj (fun W=>(Qal kj (congrArg (Value.int .u32) (w_or _ _)))) ?_
  refine QaL (Qaq _) (.slice (some ⟨gb,ob,none⟩) b.length c_b) kj kj (fun W=>by kernel_rfl) <| QaL (Qaq _) (.pointer (some ⟨gb,ob+3,none⟩)) kj kj (fun W=>(QcI 24 _ _ .i64 (3) gb ob b.length c_b 5 rfl kj kj kj kj (by omega))) <| Qc8 (Qaq _) (.int .u8 (nth (b) (3))) kj kj (fun W hR=>(Qb1 5 _ _ (.int .u8 (nth (b) (3))) ((Below.cell (Rely.Ext.trans (Rely.Ext.trans (Rely.Ext.refl w) (Qai _)) hR) hgb).trans (hcb 3 (by omega))) rfl kj kj)) <| QaL (Qaq _) (.int .u32 (wv (BitVec.ofInt 32 (nth b 3)))) kj kj (fun W=>(Qal (u:=.int .u32 (IntKind.u32.wrap (nth (b) (3)))) kj (congrArg (Value.int .u32) (Qn5 b 3)))) <| QaL (Qaq _) (.int .u32 (wv (BitVec.ofInt 32 (nth b 3)<<<24))) kj kj (fun W=>(Qbc .shl _ _ _ _ .u32 .u64 _ _ _ rfl kj kj (Qgw _ _ _ _ _ _ (by decide) (Qka _ _ 24 rfl (by decide))))) <| QdN (hF _ fun W1 e1=>?_)
  simp only [List.nil_append,List.cons_append,List.take_succ_cons,List.take_zero,List.drop_succ_cons,List.drop_zero,finE,up]
  clear hF
  refine Qad (.int .u32 (wv (((((((BitVec.ofInt 32 (nth b 0)))|||((BitVec.ofInt 32 (nth b 1)<<<8))))|||((BitVec.ofInt 32 (nth b 2)<<<16))))|||((BitVec.ofInt 32 (nth b 3)<<<24))))) 24 rfl kj (Qal kj (congrArg (Value.int .u32) (w_or _ _))) <| sg 1 kj <| sgN hK2 <| wp_ret ?_
  repeat (first | with_reducible refine goR1 ?_ | with_reducible refine goR2 ?_)
  exact (show bodyPost _ _ _ .ret _ _ from ret1 (.int .u32 (wv (((((((BitVec.ofInt 32 (nth b 0)))|||((BitVec.ofInt 32 (nth b 1)<<<8))))|||((BitVec.ofInt 32 (nth b 2)<<<16))))|||((BitVec.ofInt 32 (nth b 3)<<<24))))) rfl (QaM kj) ⟨rfl,(Ext.tr (Rely.Ext.refl w) e1)⟩)
end Go.Proofs.YtmljnchhgkfemaaDoor.Cha
end
section
namespace Go.Proofs.YtmljnchhgkfemaaDoor.Cha
open Go Go.RowKit
open Rely Auto Own Sha
open Sha
theorem Qkl {P : Program} {ρ:Operand→Value} {o:Oper} {w:World} (t:TypeId) (x y z:Operand) (l h g off len cap:Nat) (e:TypeId) (ho:o.op=.slice t x (some y) (some z) none) (hx:ρ x=.slice (some ⟨g,off,none⟩) len cap)
    (hu:P.underlying t=some (.slice e)) (hs:(P.info? e).map (·.size)=some 1) (hy:ρ y=.int .i64 (l:Int)) (hz:ρ z=.int .i64 (h:Int)) (h1:l≤h) (h2:h≤cap) (h3:l<cap) :
    (execOp ρ o).run P w=.ok (.value (.slice (some ⟨g,off+l,none⟩) (h-l) (cap-l))) w:=by
  cases hq:P.info? e with
  | none=>simp [hq] at hs
  | some i =>
    have hs':i.size=1:=by simpa [hq] using hs
    have hadd:(⟨g,off,none⟩:Addr).add l=⟨g,off+l,none⟩:=WideShapes.add_plain ..
    have hne:¬ cap=l:=by omega
    unfold execOp
    simp [ho,hx,hy,hz,Instr.sliceAt,Instr.slice,Instr.sliceBounds,run_sliceBound,run_underlying hu,sizeOf,typeInfo,hq,hs',h1,h2,hadd,hne]
def sub4 (b : List Int) (i:Nat):List Int:=(b.drop (4*i)).take 4
theorem QgW (b : List Int) (i:Nat) (h:4*i+4≤b.length):(sub4 b i).length=4:=by
  unfold sub4
  rw [List.length_take,List.length_drop]; omega
theorem Qm7 (b : List Int) (i j:Nat) (h:j<4):nth (sub4 b i) j=nth b (4*i+j):=by
  unfold nth sub4
  rw [List.getD_eq_getElem?_getD,List.getD_eq_getElem?_getD,List.getElem?_take,if_pos h,List.getElem?_drop]
theorem Qlj {B g o c:Nat} {xs:List Int} {W:World} (hx:RdK .u8 B xs (.slice (some ⟨g,o,none⟩) xs.length c) W) (i:Nat) (hi:4*i+4≤xs.length):RdK .u8 B (sub4 xs i) (.slice (some ⟨g,o+4*i,none⟩) 4 (c-4*i)) W:=by
  obtain ⟨a,cap,e,h2,h3,h4,h5⟩:=hx
  simp only [Value.slice.injEq] at e
  obtain ⟨rfl,-,rfl⟩:=e
  have hl:=QgW xs i hi
  rcases h5 with h5 | ⟨g',o',q1,q2,q3,q4⟩
  · rw [h5] at hi; simp at hi
  · obtain ⟨rfl,rfl⟩:g=g'∧o=o':=by simpa using q1
    refine ⟨some ⟨g,o+4*i,none⟩,c-4*i,by rw [hl],by omega,by omega,(fun h=>by cases h),.inr ⟨g,o+4*i,rfl,q2,q3,fun j hj=>?_⟩⟩
    rw [Qm7 _ _ _ (by omega),Nat.add_assoc]
    exact q4 _ (by omega)
set_option maxRecDepth 100000 in
theorem QnJ (key nonce:List Int) (v:Value) (B:Nat) (th:TypeId) (w:World) (hh:w.heap[2]? = some (.cells (ints .u32 qH) th)) (hkl:key.length=32) (hn:RdK .u8 B nonce v w) (hnl:nonce.length=12):Calls Tryd.prog 74 #[.agg (ints .u8 key),v] w (Ret w (.agg (ints .u32 [1634760805,857760878,2036477234,1797285236,wv (le4 (sub4 key 0)),wv (le4 (sub4 key 1)),wv (le4 (sub4 key 2)),wv (le4 (sub4 key 3)),wv (le4 (sub4 key 4)),wv (le4 (sub4 key 5)),wv (le4 (sub4 key 6)),wv (le4 (sub4 key 7)),0,wv (le4 (sub4 nonce 0)),wv (le4 (sub4 nonce 1)),wv (le4 (sub4 nonce 2))]))):=by
 obtain ⟨a_n,c_n,rfl,hnc,-,-,-⟩:=id hn
 obtain ⟨gn,on,rfl,-,hgn,hcn⟩:=Qfr hn (by omega)
 obtain ⟨T_,hT⟩:∃ z:List Int,z=[1634760805,857760878,2036477234,1797285236,wv (le4 (sub4 key 0)),wv (le4 (sub4 key 1)),wv (le4 (sub4 key 2)),wv (le4 (sub4 key 3)),wv (le4 (sub4 key 4)),wv (le4 (sub4 key 5)),wv (le4 (sub4 key 6)),wv (le4 (sub4 key 7)),0,wv (le4 (sub4 nonce 0)),wv (le4 (sub4 nonce 1)),wv (le4 (sub4 nonce 2))]:=⟨_,rfl⟩
 have hTl:T_.length=16:=by rw [hT]; rfl
 have hTh:∀ i,i<4→nth qH i=nth T_ i:=fun i hi=>by rw [hT]; rcases (show i=0∨i=1∨i=2∨i=3 by omega) with rfl | rfl | rfl | rfl <;> rfl
 have hTk:∀ i,i<8→nth T_ (4+i)=wv (le4 (sub4 key i)):=fun i hi=>by rw [hT]; rcases (show i=0∨i=1∨i=2∨i=3∨i=4∨i=5∨i=6∨i=7 by omega) with rfl | rfl | rfl | rfl | rfl | rfl | rfl | rfl <;> rfl
 have hTn:∀ i,i<3→nth T_ (13+i)=wv (le4 (sub4 nonce i)):=fun i hi=>by rw [hT]; rcases (show i=0∨i=1∨i=2 by omega) with rfl | rfl | rfl <;> rfl
 have hT12:fill T_ 16 12=fill T_ 16 13:=by rw [hT]; rfl
 refine enter 49 [(0,.agg (ints .u8 (key))),(1,.slice (some ⟨gn,on,none⟩) nonce.length c_n)] Tryd.func74 rfl rfl kj rfl <| sgC fun K2 hK2=>Qaj (ints .u8 (key)) 23 2 rfl kj kj fun g3 W1 l3 e1 r3_1=>?_
 have x1:=Ext.tr (Rely.Ext.refl w) e1
 have b3:=qT (Rely.Ext.refl w).size l3
 refine Qaj (ints .u32 (List.replicate 16 0)) 123 4 rfl kj kj fun g4 W2 l4 e2 r4_2=>?_
 have x2:=Ext.tr x1 e2
 refine sgN hK2 <| sgC fun K5 hK5=>Qaj (ints .u32 (List.replicate 16 0)) 123 5 rfl kj kj fun g6 W3 l6 e3 r6_3=>?_
 have b6:=qT x2.size l6
 refine sgN hK5 <| wp_seq_k fun K7 hK7=>sgC fun K8 hK8=>Qad (.agg (ints .u32 (qH))) 10 rfl kj (Qae 135 _ 2 th _ _ (Qaa (Qaa (Qaa hh e1) e2) e3) rfl kj kj (isz (n:=4) kj kj)) <| sg 1 kj <| sgN hK8 <| wp_block <| QaN (fun (s1:Nat)=>[(1,.slice (some ⟨gn,on,none⟩) nonce.length c_n),(2,.pointer (some ⟨g3,0,none⟩)),(4,.pointer (some ⟨g4,0,none⟩)),(5,.pointer (some ⟨g6,0,none⟩)),(10,.agg (ints .u32 (qH))),(11,.int .i64 ((s1:Nat):Int))]) (fun (s1:Nat) W=>(s1≤4)∧(W.heap[g6]? = some (.cells (ints .u32 (fill T_ 16 (s1))) 123))∧(Qau [g6] W3 W)∧(Ext w W)) (fun (s1:Nat)=>4-s1) 0 ⟨kj,kj,kj,kj,kj,kj,trivial⟩ ⟨(Nat.zero_le _),(QaC r6_3 (Qea T_ 16).symm),(Qau.refl [g6] W3),(Ext.tr x2 e3)⟩ fun s1 X1 V1 hI1=>?_
 obtain ⟨i,hs1⟩:∃ z,z=s1:=⟨_,rfl⟩
 subst hs1
 obtain ⟨hi,q6_1,kk1,xx1⟩:=hI1
 replace hi:i≤4:=hi
 replace q6_1:V1.heap[g6]? = some (.cells (ints .u32 (fill T_ 16 (i))) 123):=q6_1
 replace kk1:Qau [g6] W3 V1:=kk1
 replace xx1:Ext w V1:=xx1
 have q4:=kk1
 refine sgB kj <| wp_seq_k fun K10 hK10=>Qa9 (t:=decide (((i:Nat):Int)<4)) kj (fun c11=>?_) (fun c11=>?_)
 ·skip
  have hlt12:i<4:=by have:=of_decide_eq_true c11; omega
  refine wp_skip <| hK10 _ _ <| wp_seq_k fun K12 hK12=>wp_block <| sgC fun K13 hK13=>sg 1 kj <| Qad (.int .u32 (nth T_ i)) 14 rfl kj (Qa7 135 _ _ .i64 .u32 (qH) i 4 111 (nth T_ i) rfl kj kj kj kj kj rfl (by omega) (hTh i hlt12)) <| sg 2 kj <| sgN hK13 <| Qan ?_
  refine sg 2 kj <| Qad (.pointer (some ⟨g6,i,none⟩)) 17 rfl kj (Qa3 _ _ _ .i64 (i) _ 16 111 rfl kj kj kj kj (by omega)) <| Qah g6 _ (ints .u32 ((fill T_ 16 (i)).set i (nth T_ i))) 123 q6_1 rfl kj (Qaw 111 _ _ g6 i 123 _ _ q6_1 rfl kj kj kj (Nat.lt_of_lt_of_eq (by omega) (QbH hTl (by omega)).symm)) fun W5 p5 r6_5=>Qaz <| hK12 _ _ <| Qan <| Qad (.int .i64 ((i+1:Nat):Int)) 18 rfl kj (Qal (u:=.int .i64 (IntKind.i64.wrap (((i:Nat):Int)+1))) kj (congrArg (Value.int .i64) (i64n _ _ (by omega) (by omega)))) <| sg 1 kj <| Qaz ?_
  repeat (first | with_reducible refine goX1 ?_ | with_reducible refine goX2 ?_ | with_reducible refine goX3 ?_)
  exact QaG (i+1) ⟨kj,kj,kj,kj,kj,kj,trivial⟩ ⟨(by omega),(QaC r6_5 (Qde hTl (by omega))),(Qau.puts q4 p5 (.inl (by simp))),(Puts.ext p5 xx1 b6)⟩ (by show 4-(i+1)<4-i; omega)
 ·skip
  have heq12:i=4:=by have:=of_decide_eq_false c11; omega
  refine wp_exit <| hK7 _ _ <| wp_seq_k fun K14 hK14=>sgB kj <| wp_block <| QaN (fun (s2:Nat)=>[(1,.slice (some ⟨gn,on,none⟩) nonce.length c_n),(2,.pointer (some ⟨g3,0,none⟩)),(4,.pointer (some ⟨g4,0,none⟩)),(5,.pointer (some ⟨g6,0,none⟩)),(10,.agg (ints .u32 (qH))),(19,.int .i64 ((s2:Nat):Int))]) (fun (s2:Nat) W=>(s2≤8)∧(W.heap[g6]? = some (.cells (ints .u32 (fill T_ 16 (4+s2))) 123))∧(Qau [g6] V1 W)∧(Ext w W)) (fun (s2:Nat)=>8-s2) 0 ⟨kj,kj,kj,kj,kj,kj,trivial⟩ ⟨(Nat.zero_le _),(QaC q6_1 (by rw [heq12])),(Qau.refl [g6] V1),xx1⟩ fun s2 X2 V2 hI2=>?_
  obtain ⟨i,hs2⟩:∃ z,z=s2:=⟨_,rfl⟩
  subst hs2
  obtain ⟨hi,q6_2,kk2,xx2⟩:=hI2
  replace hi:i≤8:=hi
  replace q6_2:V2.heap[g6]? = some (.cells (ints .u32 (fill T_ 16 (4+i))) 123):=q6_2
  replace kk2:Qau [g6] V1 V2:=kk2
  replace xx2:Ext w V2:=xx2
  have q5:=kk2
  refine sgB kj <| wp_seq_k fun K17 hK17=>Qa9 (t:=decide (((i:Nat):Int)<8)) kj (fun c18=>?_) (fun c18=>?_)
  ·skip
   have hlt20:i<8:=by have:=of_decide_eq_true c18; omega
   refine wp_skip <| hK17 _ _ <| wp_seq_k fun K19 hK19=>wp_block <| sgB kj <| Qan <| sg 1 kj <| Qad (.int .i64 ((4+i:Nat):Int)) 23 rfl kj (Qal (u:=.int .i64 (IntKind.i64.wrap (4+((i:Nat):Int)))) kj (congrArg (Value.int .i64) (i64n _ _ (by omega) (by omega)))) <| sg 1 kj <| Qad (.int .i64 ((4*i:Nat):Int)) 25 rfl kj (Qal (u:=.int .i64 (IntKind.i64.wrap (4*((i:Nat):Int)))) kj (congrArg (Value.int .i64) (i64n _ _ (by omega) (by omega)))) ?_
   refine sg 1 kj <| Qad (.int .i64 ((4*i:Nat):Int)) 27 rfl kj (Qal (u:=.int .i64 (IntKind.i64.wrap (4*((i:Nat):Int)))) kj (congrArg (Value.int .i64) (i64n _ _ (by omega) (by omega)))) <| Qad (.int .i64 (((4*i)+4:Nat):Int)) 28 rfl kj (Qal (u:=.int .i64 (IntKind.i64.wrap (((4*i:Nat):Int)+4))) kj (congrArg (Value.int .i64) (i64n _ _ (by omega) (by omega)))) <| Qad (.slice (some ⟨g3,0+4*i,none⟩) 4 (32-4*i)) 29 rfl kj (Eq.trans (Qce 23 _ _ _ (4*i) (4*i+4) 32 g3 0 5 rfl kj kj kj ⟨.i64,by kernel_rfl⟩ ⟨.i64,by kernel_rfl⟩ (by omega) (by omega) (by omega)) (by rw [show 4*i+4-4*i=4 by omega])) ?_
   have r3_2:=(Qaa r3_1 e2)
   have r3_5:=(Qau.row q5 (Qau.row q4 (Qaa r3_2 e3) (Qba (Qab r3_2 l6) Qbm)) (Qba (Qab r3_2 l6) Qbm))
   refine Qao (.int .u32 (wv (le4 (sub4 key i)))) 84 #[.slice (some ⟨g3,0+4*i,none⟩) 4 (32-4*i)] 30 rfl kj kj ((Qpk (sub4 key i) _ _ _ (Qlj (xs:=key) (by rw [hkl]; exact QbB (xs:=key) (n:=32) hkl r3_5 (Qa4 r3_5) (by decide)) i (by omega)) (QgW _ _ (by omega)))) fun W6 e6=>?_
   refine Qad (.pointer (some ⟨g6,4+i,none⟩)) 31 rfl kj (Qa3 _ _ _ .i64 (4+i) _ 16 111 rfl kj kj kj kj (by omega)) ?_
   have r6_6:=(Qaa q6_2 e6)
   refine Qah g6 _ (ints .u32 ((fill T_ 16 (4+i)).set (4+i) (wv (le4 (sub4 key i))))) 123 r6_6 rfl kj (Qaw 111 _ _ g6 (4+i) 123 _ _ r6_6 rfl kj kj kj (Nat.lt_of_lt_of_eq (by omega) (QbH hTl (by omega)).symm)) fun W7 p7 r6_7=>?_
   have x7:=Puts.ext p7 (Ext.tr xx2 e6) b6
   refine Qaz <| hK19 _ _ <| Qan <| Qad (.int .i64 ((i+1:Nat):Int)) 32 rfl kj (Qal (u:=.int .i64 (IntKind.i64.wrap (((i:Nat):Int)+1))) kj (congrArg (Value.int .i64) (i64n _ _ (by omega) (by omega)))) <| sg 1 kj <| Qaz ?_
   repeat (first | with_reducible refine goX1 ?_ | with_reducible refine goX2 ?_ | with_reducible refine goX3 ?_)
   exact QaG (i+1) ⟨kj,kj,kj,kj,kj,kj,trivial⟩ ⟨(by omega),(QaC r6_7 (by rw [←hTk i hlt20]; exact Qde hTl (by omega))),(Qau.puts (Qau.step q5 e6) p7 (.inl (by simp))),x7⟩ (by show 8-(i+1)<8-i; omega)
  ·skip
   have heq20:i=8:=by have:=of_decide_eq_false c18; omega
   refine wp_exit <| hK14 _ _ <| wp_seq_k fun K21 hK21=>sgB kj <| wp_block <| QaN (fun (s3:Nat)=>[(1,.slice (some ⟨gn,on,none⟩) nonce.length c_n),(2,.pointer (some ⟨g3,0,none⟩)),(4,.pointer (some ⟨g4,0,none⟩)),(5,.pointer (some ⟨g6,0,none⟩)),(10,.agg (ints .u32 (qH))),(33,.int .i64 ((s3:Nat):Int))]) (fun (s3:Nat) W=>(s3≤3)∧(W.heap[g6]? = some (.cells (ints .u32 (fill T_ 16 (13+s3))) 123))∧(Qau [g6] V2 W)∧(Ext w W)) (fun (s3:Nat)=>3-s3) 0 ⟨kj,kj,kj,kj,kj,kj,trivial⟩ ⟨(Nat.zero_le _),(QaC q6_2 (by rw [heq20]; exact hT12)),(Qau.refl [g6] V2),xx2⟩ fun s3 X3 V3 hI3=>?_
   obtain ⟨i,hs3⟩:∃ z,z=s3:=⟨_,rfl⟩
   subst hs3
   obtain ⟨hi,q6_3,kk3,xx3⟩:=hI3
   replace hi:i≤3:=hi
   replace q6_3:V3.heap[g6]? = some (.cells (ints .u32 (fill T_ 16 (13+i))) 123):=q6_3
   replace kk3:Qau [g6] V2 V3:=kk3
   replace xx3:Ext w V3:=xx3
   have q6:=kk3
   refine sgB kj <| wp_seq_k fun K24 hK24=>Qa9 (t:=decide (((i:Nat):Int)<3)) kj (fun c25=>?_) (fun c25=>?_)
   ·skip
    have hlt34:i<3:=by have:=of_decide_eq_true c25; omega
    refine wp_skip <| hK24 _ _ <| wp_seq_k fun K26 hK26=>wp_block <| sgB kj <| Qan <| sg 1 kj <| Qad (.int .i64 ((13+i:Nat):Int)) 37 rfl kj (Qal (u:=.int .i64 (IntKind.i64.wrap (13+((i:Nat):Int)))) kj (congrArg (Value.int .i64) (i64n _ _ (by omega) (by omega)))) <| sg 2 kj <| Qad (.int .i64 ((4*i:Nat):Int)) 40 rfl kj (Qal (u:=.int .i64 (IntKind.i64.wrap (4*((i:Nat):Int)))) kj (congrArg (Value.int .i64) (i64n _ _ (by omega) (by omega)))) ?_
    refine sg 1 kj <| Qad (.int .i64 ((4*i:Nat):Int)) 42 rfl kj (Qal (u:=.int .i64 (IntKind.i64.wrap (4*((i:Nat):Int)))) kj (congrArg (Value.int .i64) (i64n _ _ (by omega) (by omega)))) <| Qad (.int .i64 (((4*i)+4:Nat):Int)) 43 rfl kj (Qal (u:=.int .i64 (IntKind.i64.wrap (((4*i:Nat):Int)+4))) kj (congrArg (Value.int .i64) (i64n _ _ (by omega) (by omega)))) <| Qad (.slice (some ⟨gn,on+4*i,none⟩) 4 (c_n-4*i)) 44 rfl kj ((Qkl 24 _ _ _ (4*i) (4*i+4) gn on nonce.length c_n 5 rfl kj kj kj kj kj (by omega) (by omega) (by omega)).trans (by rw [show 4*i+4-4*i=4 by omega])) <| Qao (.int .u32 (wv (le4 (sub4 nonce i)))) 84 #[.slice (some ⟨gn,on+4*i,none⟩) 4 (c_n-4*i)] 45 rfl kj kj ((Qpk (sub4 nonce i) _ _ _ (Qlj (xs:=nonce) (hn.ext xx3) i (by omega)) (QgW _ _ (by omega)))) fun W7 e7=>?_
    have x7:=Ext.tr xx3 e7
    refine Qad (.pointer (some ⟨g6,13+i,none⟩)) 46 rfl kj (Qa3 _ _ _ .i64 (13+i) _ 16 111 rfl kj kj kj kj (by omega)) ?_
    have r6_7:=(Qaa q6_3 e7)
    refine Qah g6 _ (ints .u32 ((fill T_ 16 (13+i)).set (13+i) (wv (le4 (sub4 nonce i))))) 123 r6_7 rfl kj (Qaw 111 _ _ g6 (13+i) 123 _ _ r6_7 rfl kj kj kj (Nat.lt_of_lt_of_eq (by omega) (QbH hTl (by omega)).symm)) fun W8 p8 r6_8=>Qaz <| hK26 _ _ <| Qan <| Qad (.int .i64 ((i+1:Nat):Int)) 47 rfl kj (Qal (u:=.int .i64 (IntKind.i64.wrap (((i:Nat):Int)+1))) kj (congrArg (Value.int .i64) (i64n _ _ (by omega) (by omega)))) <| sg 1 kj <| Qaz ?_
    repeat (first | with_reducible refine goX1 ?_ | with_reducible refine goX2 ?_ | with_reducible refine goX3 ?_)
    exact QaG (i+1) ⟨kj,kj,kj,kj,kj,kj,trivial⟩ ⟨(by omega),(QaC r6_8 (by rw [←hTn i hlt34]; exact Qde hTl (by omega))),(Qau.puts (Qau.step q6 e7) p8 (.inl (by simp))),(Puts.ext p8 x7 b6)⟩ (by show 3-(i+1)<3-i; omega)
   ·skip
    have heq34:i=3:=by have:=of_decide_eq_false c25; omega
    have r6_6_28:V3.heap[g6]? = some (.cells (ints .u32 (T_)) 123):=QaC q6_3 (by rw [heq34]; exact Qd8 hTl)
    refine wp_exit <| hK21 _ _ <| sgC fun K29 hK29=>Qad (.agg (ints .u32 (T_))) 48 rfl kj (Qae 123 _ g6 123 _ _ r6_6_28 rfl kj kj (isz (n:=16) kj ((Qac _ _).trans hTl))) ?_
    have r4_6:=(Qau.row q6 (Qau.row q5 (Qau.row q4 (Qaa r4_2 e3) (Qba (Qab r4_2 l6) Qbm)) (Qba (Qab r4_2 l6) Qbm)) (Qba (Qab r4_2 l6) Qbm))
    refine Qah g4 _ (ints .u32 (T_)) 123 r4_6 rfl kj (Qaf 123 _ _ g4 123 _ _ r4_6 rfl kj kj (isz (n:=16) kj ((Qac _ _).trans hTl)) (eqsz (n:=16) ((Qac _ _).trans (qZ (n:=16))) ((Qac _ _).trans hTl)) (ints_one _ _)) fun W7 p7 r4_7=>?_
    have x7:=Puts.ext p7 xx3 (qT x1.size l4)
    refine sgN hK29 <| wp_ret ?_
    repeat (first | with_reducible refine goR1 ?_ | with_reducible refine goR2 ?_)
    exact (show bodyPost _ _ _ .ret _ _ from ret1 (.agg (ints .u32 (T_))) rfl (QaZ g4 123 _ r4_7 kj kj (isz (n:=16) kj ((Qac _ _).trans hTl))) ⟨by rw [hT],x7⟩)
end Go.Proofs.YtmljnchhgkfemaaDoor.Cha
end
section
namespace Go.Proofs.YtmljnchhgkfemaaDoor.Cha
open Go Go.RowKit
open Rely Auto Own Sha
open Sha
end Go.Proofs.YtmljnchhgkfemaaDoor.Cha
end
section
namespace Go.Proofs.YtmljnchhgkfemaaDoor.Auto
open Go Go.RowKit
open Rely
section
variable {P : Program} {Rd : World → Prop} {w0 : World} {base N : Nat} {L : Env} {U : List Nat} {F : List Kn → Prop} {o : Oper} {os : List Oper} {s : Src} {ss : List Src} {C : List Kn}
theorem QaV (v : Value) (hs:seen C o s=true) (hg:gOk s.guard (get (envS N L (C.map Kn.val) s.reads))=true) (hd:o.dst.isNone=false)
    (h:∀ W,(execOp (Rely.look (get (envS N L (C.map Kn.val) s.reads))) o).run P W=.ok (.value v) W)
    (hk:QcT P Rd w0 base N L U F os ss (C++[.is v])):QcT P Rd w0 base N L U F (o::os) (s::ss) C :=
  ⟨.is v,(fun hn=>by rw [hd] at hn; cases hn),(fun _=>by
    split
    · exact ⟨hs,v,rfl,fun W _=>Qct hg (h W)⟩
    · intro ρ W hR hh
      rw [QcG hs hh]
      refine Qct hg ?_
      unfold Qbq
      rw [Qdj hs hh,h W]
      exact ⟨Ext.refl _,rfl⟩),hk⟩
theorem QdQ (v : Value) (f:FuncId) (args:Array Value) (hu:U.contains C.length=false) (hs:seen C o s=true) (hg:gOk s.guard (get (envS N L (C.map Kn.val) s.reads))=true) (hd:o.dst.isNone=false)
    (h:∀ W,(execOp (Rely.look (get (envS N L (C.map Kn.val) s.reads))) o).run P W=.ok (.enter f args) W) (hc:∀ W,Ext w0 W→Calls P f args W (Ret W v))
    (hk:QcT P Rd w0 base N L U F os ss (C++[.is v])):QcT P Rd w0 base N L U F (o::os) (s::ss) C :=
  t_op (.is v) hu hs hg hd (fun W hR=>by
    rw [h]
    exact ⟨Ext.refl _,(hc W hR).mono fun _ _ h=>h.const⟩) hk
end
end Go.Proofs.YtmljnchhgkfemaaDoor.Auto
end
section
namespace Go.Proofs.YtmljnchhgkfemaaDoor.Cha
open Go Go.RowKit
open Rely Auto Own Sha
open Sha
def qrt (x : List Wd) (i j k l:Nat):List Wd:=(((x.set i (qA2 (wget x i) (wget x j) (wget x k) (wget x l))).set j (qB2 (wget x i) (wget x j) (wget x k) (wget x l))).set k (qC2 (wget x i) (wget x j) (wget x k) (wget x l))).set l (qD2 (wget x i) (wget x j) (wget x k) (wget x l))
theorem Qlo (x : List Wd) (i j k l:Nat):(qrt x i j k l).length=x.length:=by unfold qrt; simp only [List.length_set]
def dbl (x : List Wd):List Wd:=qrt (qrt (qrt (qrt (qrt (qrt (qrt (qrt (x) 0 4 8 12) 1 5 9 13) 2 6 10 14) 3 7 11 15) 0 5 10 15) 1 6 11 12) 2 7 8 13) 3 4 9 14
def qrow (j : Nat):List Int:=(qQ:List Int).drop (4*j) |>.take 4
def qn (j k:Nat):Nat:=(nth (qrow j) k).toNat
theorem QcO {j : Nat} (h:j<8):(qrow j).length=4:=(by decide:∀ j:Fin 8,(qrow j.val).length=4) ⟨j,h⟩
theorem QmF {j : Nat} (h:j<8) (k:Nat) (hk:k<4):qn j k<16:=(by decide:∀ (j:Fin 8) (k:Fin 4),qn j.val k.val<16) ⟨j,h⟩ ⟨k,hk⟩
theorem Qfs {j : Nat} (h:j<8) (k:Nat) (hk:k<4):nth (qrow j) k=((qn j k:Nat):Int):=(by decide:∀ (j:Fin 8) (k:Fin 4),nth (qrow j.val) k.val=((qn j.val k.val:Nat):Int)) ⟨j,h⟩ ⟨k,hk⟩
def qsN (x : List Wd):Nat→List Wd
  | 0=>x
  | j+1=>qrt (qsN x j) (qn j 0) (qn j 1) (qn j 2) (qn j 3)
theorem Qd0 (x : List Wd):∀ j,(qsN x j).length=x.length
  | 0=>rfl
  | j+1=>(Qlo ..).trans (Qd0 x j)
theorem QoU (x : List Wd):(dbl x).length=x.length:=by unfold dbl; simp only [Qlo]
def rounds (s : List Wd):Nat→List Wd
  | 0=>s
  | n+1=>dbl (rounds s n)
theorem QeX (s : List Wd):∀ n,(rounds s n).length=s.length
  | 0=>rfl
  | n+1=>(QoU _).trans (QeX s n)
theorem QcS {x : List Wd} {n:Nat} (h:x.length=n):(x.map wv).length=n:=by rw [List.length_map,h]
def QbW (xs : List Int) (n i:Nat):List Int:=xs.take i++List.replicate (n-i) 0
theorem Qdr (xs : List Int) (n i:Nat) (h:xs.length=n) (hi:i≤n):(QbW xs n i).length=n:=by unfold QbW; rw [List.length_append,List.length_take,qZ]; omega
theorem QcK (xs : List Int) (n:Nat):List.replicate n 0=QbW xs n 0:=by unfold QbW; rw [List.take_zero,Nat.sub_zero]; rfl
theorem Qc3 (xs : List Int) (n:Nat) (h:xs.length=n):QbW xs n n=xs:=by unfold QbW; rw [Nat.sub_self,List.replicate_zero,List.append_nil,List.take_of_length_le (by omega)]
theorem QcL (xs : List Int) (n i:Nat) (h:xs.length=n) (hi:i<n):(QbW xs n i).set i (nth xs i)=QbW xs n (i+1):=by
  have hl:(xs.take i).length=i:=by rw [List.length_take]; omega
  unfold QbW
  rw [List.set_append_right _ _ (by omega),hl,Nat.sub_self,show n-i=(n-(i+1))+1 by omega,List.replicate_succ,List.set_cons_zero]
  have e:xs.take (i+1)=xs.take i++[nth xs i]:=by
    rw [List.take_add_one,List.getElem?_eq_getElem (by omega)]
    simp [nth,show i<xs.length by omega]
  rw [e,List.append_assoc]
  rfl
def QcC (x s:List Wd):List Int:=(List.range 64).map fun n=>wv ((wget x (n/4)+wget s (n/4))>>>(8*(n%4)))%256
theorem Qg5 (x s:List Wd):(QcC x s).length=64:=by unfold QcC; rw [List.length_map,List.length_range]
theorem QqI (x s:List Wd) (i j:Nat) (hi:i<16) (hj:j<4):IntKind.u8.wrap (wv ((wget x i+wget s i)>>>(8*j)))=nth (QcC x s) (4*i+j):=by
  have h1:(4*i+j)/4=i:=by omega
  have h2:(4*i+j)%4=j:=by omega
  have h3:∀ z:Int,IntKind.u8.wrap z=z%2^8:=fun _=>rfl
  unfold nth QcC
  rw [h3,List.getD_eq_getElem?_getD,List.getElem?_map,List.getElem?_range (by omega),Option.map_some,Option.getD_some,h1,h2]
  rfl
def Qbu (ws : List Wd) (number:Int):List Int:=QcC (rounds (ws.set 12 (BitVec.ofInt 32 number)) 10) (ws.set 12 (BitVec.ofInt 32 number))
set_option maxRecDepth 100000 in
theorem QnP (ws : List Wd) (number:Int) (tq:TypeId) (w:World) (hq:w.heap[3]? = some (.cells (ints .i64 qQ) tq)) (hw:ws.length=16):Calls Tryd.prog 76 #[.agg (ints .u32 (ws.map wv)),.int .i64 number] w (Ret w (.agg (ints .u8 (Qbu ws number)))):=by
 refine enter 84 [(0,.agg (ints .u32 (ws.map wv))),(1,.int .i64 number)] Tryd.func76 rfl rfl kj rfl <| sgC fun K2 hK2=>Qaj (ints .u32 (ws.map wv)) 123 2 rfl kj kj fun g3 W1 l3 e1 r3_1=>?_
 have x1:=Ext.tr (Rely.Ext.refl w) e1
 refine Qaj (ints .u8 (List.replicate 64 0)) 98 4 rfl kj kj fun g4 W2 l4 e2 r4_2=>sgN hK2 <| sgC fun K5 hK5=>sg 1 kj <| Qad (.int .u32 (wv (BitVec.ofInt 32 number))) 13 rfl kj (Qal (u:=.int .u32 (IntKind.u32.wrap (number))) kj (congrArg (Value.int .u32) (by rw [Sha.wrap32,Qf4]))) <| sg 1 kj ?_
 have r3_2:=(Qaa r3_1 e2)
 refine Qah g3 _ (ints .u32 ((ws.map wv).set 12 (wv (BitVec.ofInt 32 number)))) 123 r3_2 rfl kj (Qaw 111 _ _ g3 12 123 _ _ r3_2 rfl kj kj kj (Nat.lt_of_lt_of_eq (show 12<16 by decide) (QcS hw).symm)) fun W3 p3 r3_3=>?_
 have x3:=Puts.ext p3 (Ext.tr x1 e2) (qT (Rely.Ext.refl w).size l3)
 obtain ⟨s,es⟩:∃ z:List Wd,z=ws.set 12 (BitVec.ofInt 32 number):=⟨_,rfl⟩
 have hs:s.length=16:=by rw [es,List.length_set,hw]
 have r3_3_6:W3.heap[g3]? = some (.cells (ints .u32 (s.map wv)) 123):=QaC r3_3 (by rw [es,List.map_set])
 refine sgN hK5 <| sgC fun K7 hK7=>Qad (.agg (ints .u32 (s.map wv))) 15 rfl kj (Qae 123 _ g3 123 _ _ r3_3_6 rfl kj kj (isz (n:=16) kj ((Qac _ _).trans (QcS hs)))) <| Qaj (ints .u32 ([0,0,0,0,0,0,0,0,0,0,0,0,0,0,0,0])) 123 5 rfl kj kj fun g8 W4 l8 e4 r8_4=>?_
 have b8:=qT x3.size l8
 refine Qah g8 _ (ints .u32 (s.map wv)) 123 r8_4 rfl kj (Qaf 123 _ _ g8 123 _ _ r8_4 rfl kj kj (isz (n:=16) kj ((Qac _ _).trans (QcS hs))) (eqsz (n:=16) kj ((Qac _ _).trans (QcS hs))) (ints_one _ _)) fun W5 p5 r8_5=>sgN hK7 <| wp_seq_k fun K9 hK9=>sgB kj <| wp_block <| QaN (fun (s1:Nat)=>[(2,.pointer (some ⟨g3,0,none⟩)),(4,.pointer (some ⟨g4,0,none⟩)),(5,.pointer (some ⟨g8,0,none⟩)),(16,.int .i64 ((s1:Nat):Int))]) (fun (s1:Nat) W=>(s1≤10)∧(W.heap[g8]? = some (.cells (ints .u32 ((rounds s s1).map wv)) 123))∧(Qau [g8] W5 W)∧(Ext w W)) (fun (s1:Nat)=>10-s1) 0 ⟨kj,kj,kj,kj,trivial⟩ ⟨(Nat.zero_le _),(QaC r8_5 rfl),(Qau.refl [g8] W5),(Puts.ext p5 (Ext.tr x3 e4) b8)⟩ fun s1 X1 V1 hI1=>?_
 obtain ⟨i,hs1⟩:∃ z,z=s1:=⟨_,rfl⟩
 subst hs1
 obtain ⟨hi,q8_1,kk1,xx1⟩:=hI1
 replace hi:i≤10:=hi
 replace q8_1:V1.heap[g8]? = some (.cells (ints .u32 ((rounds s i).map wv)) 123):=q8_1
 replace kk1:Qau [g8] W5 V1:=kk1
 replace xx1:Ext w V1:=xx1
 have q6:=kk1
 refine sgB kj <| wp_seq_k fun K12 hK12=>Qa9 (t:=decide (((i:Nat):Int)<10)) kj (fun c13=>?_) (fun c13=>?_)
 ·skip
  have hlt17:i<10:=by have:=of_decide_eq_true c13; omega
  refine wp_skip <| hK12 _ _ <| wp_seq_k fun K14 hK14=>wp_block <| sgC fun K15 hK15=>?_
  have r1_3:=(Puts.row p3 (Qaa (Qaa hq e1) e2) (Qab hq l3))
  refine Qad (.agg (ints .i64 (qQ))) 18 rfl kj (Qae 138 _ 3 tq _ _ (Qau.row q6 (Puts.row p5 (Qaa r1_3 e4) (Qab r1_3 l8)) (Qba (Qab r1_3 l8) Qbm)) rfl kj kj (isz (n:=32) kj kj)) <| sg 1 kj <| sgN hK15 <| wp_block ?_
  obtain ⟨x0,ex0⟩:∃ z:List Wd,z=rounds s i:=⟨_,rfl⟩
  have h0:x0.length=16:=by rw [ex0,QeX,hs]
  have r8_6_16:V1.heap[g8]? = some (.cells (ints .u32 (x0.map wv)) 123):=QaC q8_1 (by rw [ex0])
  refine QaN (fun (s2:Nat)=>[(2,.pointer (some ⟨g3,0,none⟩)),(4,.pointer (some ⟨g4,0,none⟩)),(5,.pointer (some ⟨g8,0,none⟩)),(16,.int .i64 ((i:Nat):Int)),(18,.agg (ints .i64 (qQ))),(19,.int .i64 ((s2:Nat):Int))]) (fun (s2:Nat) W=>(s2≤8)∧(W.heap[g8]? = some (.cells (ints .u32 ((qsN x0 s2).map wv)) 123))∧(Qau [g8] V1 W)∧(Ext w W)) (fun (s2:Nat)=>8-s2) 0 ⟨kj,kj,kj,kj,kj,kj,trivial⟩ ⟨(Nat.zero_le _),(QaC r8_6_16 (show x0.map wv=(qsN x0 0).map wv from rfl)),(Qau.refl [g8] V1),xx1⟩ fun s2 X2 V2 hI2=>?_
  obtain ⟨j,hs2⟩:∃ z,z=s2:=⟨_,rfl⟩
  subst hs2
  obtain ⟨hj,q8_2,kk2,xx2⟩:=hI2
  replace hj:j≤8:=hj
  replace q8_2:V2.heap[g8]? = some (.cells (ints .u32 ((qsN x0 j).map wv)) 123):=q8_2
  replace kk2:Qau [g8] V1 V2:=kk2
  replace xx2:Ext w V2:=xx2
  have q7:=kk2
  refine sgB kj <| wp_seq_k fun K18 hK18=>Qa9 (t:=decide (((j:Nat):Int)<8)) kj (fun c19=>?_) (fun c19=>?_)
  ·skip
   have hlt20:j<8:=by have:=of_decide_eq_true c19; omega
   have hq0:qn j 0<16:=QmF hlt20 0 (by decide)
   have hq1:qn j 1<16:=QmF hlt20 1 (by decide)
   have hq2:qn j 2<16:=QmF hlt20 2 (by decide)
   have hq3:qn j 3<16:=QmF hlt20 3 (by decide)
   have hxj:(qsN x0 j).length=16:=(Qd0 x0 j).trans h0
   refine wp_skip <| hK18 _ _ <| wp_seq_k fun K20 hK20=>wp_block <| sgC fun K21 hK21=>Qad (.agg (ints .i64 (qrow j))) 21 rfl kj (by rcases (show j=0∨j=1∨j=2∨j=3∨j=4∨j=5∨j=6∨j=7 by omega) with rfl | rfl | rfl | rfl | rfl | rfl | rfl | rfl <;> kernel_rfl) ?_
   refine Qaj ((Array.replicate 4 (.int .i64 0))) 137 7 rfl kj kj fun g22 W8 l22 e8 r22_8=>Qah g22 _ (ints .i64 (qrow j)) 137 r22_8 rfl kj (Qaf 137 _ _ g22 137 _ _ r22_8 rfl kj kj (isz (n:=4) kj ((Qac _ _).trans (QcO hlt20))) (eqsz (n:=4) kj ((Qac _ _).trans (QcO hlt20))) (ints_one _ _)) fun W9 p9 r22_9=>?_
   have x9:=Puts.ext p9 (Ext.tr xx2 e8) (qT xx2.size l22)
   refine sgN hK21 <| Qcv (fun W=>W.heap[g22]? = some (.cells (ints .i64 (qrow j)) 137)) [⟨none,[(7,none)]⟩,⟨none,[(23,some 0)]⟩,⟨none,[(7,none)]⟩,⟨none,[(25,some 2)]⟩,⟨none,[(7,none)]⟩,⟨none,[(27,some 4)]⟩,⟨none,[(7,none)]⟩,⟨none,[(29,some 6)]⟩,⟨none,[(7,none)]⟩,⟨none,[(31,some 8)]⟩,⟨none,[(5,none),(32,some 9)]⟩,⟨none,[(33,some 10)]⟩,⟨none,[(7,none)]⟩,⟨none,[(35,some 12)]⟩,⟨none,[(5,none),(36,some 13)]⟩,⟨none,[(37,some 14)]⟩,⟨none,[(7,none)]⟩,⟨none,[(39,some 16)]⟩,⟨none,[(5,none),(40,some 17)]⟩,⟨none,[(41,some 18)]⟩,⟨none,[(7,none)]⟩,⟨none,[(43,some 20)]⟩,⟨none,[(5,none),(44,some 21)]⟩,⟨none,[(45,some 22)]⟩,⟨none,[(34,some 11),(38,some 15),(42,some 19),(46,some 23)]⟩,⟨none,[(47,some 24)]⟩,⟨none,[(22,some 25)]⟩,⟨none,[(22,some 25)]⟩,⟨none,[(22,some 25)]⟩,⟨none,[(22,some 25)]⟩,⟨none,[(5,none),(24,some 1)]⟩,⟨none,[(52,some 30),(48,some 26)]⟩,⟨none,[(5,none),(26,some 3)]⟩,⟨none,[(53,some 32),(49,some 27)]⟩,⟨none,[(5,none),(28,some 5)]⟩,⟨none,[(54,some 34),(50,some 28)]⟩,⟨none,[(5,none),(30,some 7)]⟩,⟨none,[(55,some 36),(51,some 29)]⟩] [] [2,3,4,5,6,7,27,28,29,32,34,36] kj kj kj (fun W hR=>Qaa r22_9 hR) fun F hF=>QaV (.pointer (some ⟨g22,0,none⟩)) kj kj rfl (fun W=>by kernel_rfl) <| Qbv (.int .i64 (((qn j 0:Nat):Int))) kj kj kj rfl (fun W hR=>(Qak 3 _ g22 0 137 _ (.int .i64 (((qn j 0:Nat):Int))) _ (Qaa (Qaa r22_9 (Qai _)) hR) rfl kj ((Qar _ _ _ (Nat.lt_of_lt_of_eq (by decide) (QcO hlt20).symm)).trans (congrArg (fun z=>some (Value.int .i64 z)) (Qfs hlt20 0 (by decide)))) kj)) <| QaV (.pointer (some ⟨g22,1,none⟩)) kj kj rfl (fun W=>by kernel_rfl) <| QfO (.int .i64 (((qn j 1:Nat):Int))) kj kj kj rfl (fun W hW=>(Qak 3 _ g22 1 137 _ (.int .i64 (((qn j 1:Nat):Int))) _ hW rfl kj ((Qar _ _ _ (Nat.lt_of_lt_of_eq (by decide) (QcO hlt20).symm)).trans (congrArg (fun z=>some (Value.int .i64 z)) (Qfs hlt20 1 (by decide)))) kj)) <| QaV (.pointer (some ⟨g22,2,none⟩)) kj kj rfl (fun W=>by kernel_rfl) <| QfO (.int .i64 (((qn j 2:Nat):Int))) kj kj kj rfl (fun W hW=>(Qak 3 _ g22 2 137 _ (.int .i64 (((qn j 2:Nat):Int))) _ hW rfl kj ((Qar _ _ _ (Nat.lt_of_lt_of_eq (by decide) (QcO hlt20).symm)).trans (congrArg (fun z=>some (Value.int .i64 z)) (Qfs hlt20 2 (by decide)))) kj)) <| QaV (.pointer (some ⟨g22,3,none⟩)) kj kj rfl (fun W=>by kernel_rfl) <| QfO (.int .i64 (((qn j 3:Nat):Int))) kj kj kj rfl (fun W hW=>(Qak 3 _ g22 3 137 _ (.int .i64 (((qn j 3:Nat):Int))) _ hW rfl kj ((Qar _ _ _ (Nat.lt_of_lt_of_eq (by decide) (QcO hlt20).symm)).trans (congrArg (fun z=>some (Value.int .i64 z)) (Qfs hlt20 3 (by decide)))) kj)) ?_
   refine QaV (.pointer (some ⟨g22,0,none⟩)) kj kj rfl (fun W=>by kernel_rfl) <| Qbv (.int .i64 (((qn j 0:Nat):Int))) kj kj kj rfl (fun W hR=>(Qak 3 _ g22 0 137 _ (.int .i64 (((qn j 0:Nat):Int))) _ (Qaa (Qaa r22_9 (Qai _)) hR) rfl kj ((Qar _ _ _ (Nat.lt_of_lt_of_eq (by decide) (QcO hlt20).symm)).trans (congrArg (fun z=>some (Value.int .i64 z)) (Qfs hlt20 0 (by decide)))) kj)) <| QaV (.pointer (some ⟨g8,qn j 0,none⟩)) kj kj rfl (fun W=>(Qa3 _ _ _ .i64 (qn j 0) _ 16 111 rfl kj kj kj kj (by omega))) ?_
   have r8_8:=(Qaa q8_2 e8)
   have r8_9:=(Puts.row p9 r8_8 (Qab q8_2 l22))
   refine Qbv (.int .u32 (wv (wget (qsN x0 j) (qn j 0)))) kj kj kj rfl (fun W hR=>(Qak 111 _ g8 (qn j 0) 123 _ (.int .u32 (wv (wget (qsN x0 j) (qn j 0)))) _ (Qaa (Qaa r8_9 (Qai _)) hR) rfl kj ((Qar _ _ _ (Nat.lt_of_lt_of_eq (by omega) (QcS ((Qd0 x0 j).trans h0)).symm)).trans (congrArg (fun z=>some (Value.int .u32 z)) (Qcq (qsN x0 j) (qn j 0)))) kj)) <| QaV (.pointer (some ⟨g22,1,none⟩)) kj kj rfl (fun W=>by kernel_rfl) <| Qbv (.int .i64 (((qn j 1:Nat):Int))) kj kj kj rfl (fun W hR=>(Qak 3 _ g22 1 137 _ (.int .i64 (((qn j 1:Nat):Int))) _ (Qaa (Qaa r22_9 (Qai _)) hR) rfl kj ((Qar _ _ _ (Nat.lt_of_lt_of_eq (by decide) (QcO hlt20).symm)).trans (congrArg (fun z=>some (Value.int .i64 z)) (Qfs hlt20 1 (by decide)))) kj)) <| QaV (.pointer (some ⟨g8,qn j 1,none⟩)) kj kj rfl (fun W=>(Qa3 _ _ _ .i64 (qn j 1) _ 16 111 rfl kj kj kj kj (by omega))) <| Qbv (.int .u32 (wv (wget (qsN x0 j) (qn j 1)))) kj kj kj rfl (fun W hR=>(Qak 111 _ g8 (qn j 1) 123 _ (.int .u32 (wv (wget (qsN x0 j) (qn j 1)))) _ (Qaa (Qaa r8_9 (Qai _)) hR) rfl kj ((Qar _ _ _ (Nat.lt_of_lt_of_eq (by omega) (QcS ((Qd0 x0 j).trans h0)).symm)).trans (congrArg (fun z=>some (Value.int .u32 z)) (Qcq (qsN x0 j) (qn j 1)))) kj)) <| QaV (.pointer (some ⟨g22,2,none⟩)) kj kj rfl (fun W=>by kernel_rfl) <| Qbv (.int .i64 (((qn j 2:Nat):Int))) kj kj kj rfl (fun W hR=>(Qak 3 _ g22 2 137 _ (.int .i64 (((qn j 2:Nat):Int))) _ (Qaa (Qaa r22_9 (Qai _)) hR) rfl kj ((Qar _ _ _ (Nat.lt_of_lt_of_eq (by decide) (QcO hlt20).symm)).trans (congrArg (fun z=>some (Value.int .i64 z)) (Qfs hlt20 2 (by decide)))) kj)) <| QaV (.pointer (some ⟨g8,qn j 2,none⟩)) kj kj rfl (fun W=>(Qa3 _ _ _ .i64 (qn j 2) _ 16 111 rfl kj kj kj kj (by omega))) <| Qbv (.int .u32 (wv (wget (qsN x0 j) (qn j 2)))) kj kj kj rfl (fun W hR=>(Qak 111 _ g8 (qn j 2) 123 _ (.int .u32 (wv (wget (qsN x0 j) (qn j 2)))) _ (Qaa (Qaa r8_9 (Qai _)) hR) rfl kj ((Qar _ _ _ (Nat.lt_of_lt_of_eq (by omega) (QcS ((Qd0 x0 j).trans h0)).symm)).trans (congrArg (fun z=>some (Value.int .u32 z)) (Qcq (qsN x0 j) (qn j 2)))) kj)) <| QaV (.pointer (some ⟨g22,3,none⟩)) kj kj rfl (fun W=>by kernel_rfl) ?_
   refine Qbv (.int .i64 (((qn j 3:Nat):Int))) kj kj kj rfl (fun W hR=>(Qak 3 _ g22 3 137 _ (.int .i64 (((qn j 3:Nat):Int))) _ (Qaa (Qaa r22_9 (Qai _)) hR) rfl kj ((Qar _ _ _ (Nat.lt_of_lt_of_eq (by decide) (QcO hlt20).symm)).trans (congrArg (fun z=>some (Value.int .i64 z)) (Qfs hlt20 3 (by decide)))) kj)) <| QaV (.pointer (some ⟨g8,qn j 3,none⟩)) kj kj rfl (fun W=>(Qa3 _ _ _ .i64 (qn j 3) _ 16 111 rfl kj kj kj kj (by omega))) <| Qbv (.int .u32 (wv (wget (qsN x0 j) (qn j 3)))) kj kj kj rfl (fun W hR=>(Qak 111 _ g8 (qn j 3) 123 _ (.int .u32 (wv (wget (qsN x0 j) (qn j 3)))) _ (Qaa (Qaa r8_9 (Qai _)) hR) rfl kj ((Qar _ _ _ (Nat.lt_of_lt_of_eq (by omega) (QcS ((Qd0 x0 j).trans h0)).symm)).trans (congrArg (fun z=>some (Value.int .u32 z)) (Qcq (qsN x0 j) (qn j 3)))) kj)) <| QdQ (.tuple #[.int .u32 (wv (qA2 (wget (qsN x0 j) (qn j 0)) (wget (qsN x0 j) (qn j 1)) (wget (qsN x0 j) (qn j 2)) (wget (qsN x0 j) (qn j 3)))),.int .u32 (wv (qB2 (wget (qsN x0 j) (qn j 0)) (wget (qsN x0 j) (qn j 1)) (wget (qsN x0 j) (qn j 2)) (wget (qsN x0 j) (qn j 3)))),.int .u32 (wv (qC2 (wget (qsN x0 j) (qn j 0)) (wget (qsN x0 j) (qn j 1)) (wget (qsN x0 j) (qn j 2)) (wget (qsN x0 j) (qn j 3)))),.int .u32 (wv (qD2 (wget (qsN x0 j) (qn j 0)) (wget (qsN x0 j) (qn j 1)) (wget (qsN x0 j) (qn j 2)) (wget (qsN x0 j) (qn j 3))))]) 85 #[.int .u32 (wv (wget (qsN x0 j) (qn j 0))),.int .u32 (wv (wget (qsN x0 j) (qn j 1))),.int .u32 (wv (wget (qsN x0 j) (qn j 2))),.int .u32 (wv (wget (qsN x0 j) (qn j 3)))] kj kj kj rfl (fun W=>by kernel_rfl) (fun W hR=>(QmE (wget (qsN x0 j) (qn j 0)) (wget (qsN x0 j) (qn j 1)) (wget (qsN x0 j) (qn j 2)) (wget (qsN x0 j) (qn j 3))) W) <| QaV (.tuple #[.int .u32 (wv (qA2 (wget (qsN x0 j) (qn j 0)) (wget (qsN x0 j) (qn j 1)) (wget (qsN x0 j) (qn j 2)) (wget (qsN x0 j) (qn j 3)))),.int .u32 (wv (qB2 (wget (qsN x0 j) (qn j 0)) (wget (qsN x0 j) (qn j 1)) (wget (qsN x0 j) (qn j 2)) (wget (qsN x0 j) (qn j 3)))),.int .u32 (wv (qC2 (wget (qsN x0 j) (qn j 0)) (wget (qsN x0 j) (qn j 1)) (wget (qsN x0 j) (qn j 2)) (wget (qsN x0 j) (qn j 3)))),.int .u32 (wv (qD2 (wget (qsN x0 j) (qn j 0)) (wget (qsN x0 j) (qn j 1)) (wget (qsN x0 j) (qn j 2)) (wget (qsN x0 j) (qn j 3))))]) kj kj rfl (fun W=>by kernel_rfl) <| QaV (.int .u32 (wv (qA2 (wget (qsN x0 j) (qn j 0)) (wget (qsN x0 j) (qn j 1)) (wget (qsN x0 j) (qn j 2)) (wget (qsN x0 j) (qn j 3))))) kj kj rfl (fun W=>by kernel_rfl) <| QaV (.int .u32 (wv (qB2 (wget (qsN x0 j) (qn j 0)) (wget (qsN x0 j) (qn j 1)) (wget (qsN x0 j) (qn j 2)) (wget (qsN x0 j) (qn j 3))))) kj kj rfl (fun W=>by kernel_rfl) <| QaV (.int .u32 (wv (qC2 (wget (qsN x0 j) (qn j 0)) (wget (qsN x0 j) (qn j 1)) (wget (qsN x0 j) (qn j 2)) (wget (qsN x0 j) (qn j 3))))) kj kj rfl (fun W=>by kernel_rfl) <| QaV (.int .u32 (wv (qD2 (wget (qsN x0 j) (qn j 0)) (wget (qsN x0 j) (qn j 1)) (wget (qsN x0 j) (qn j 2)) (wget (qsN x0 j) (qn j 3))))) kj kj rfl (fun W=>by kernel_rfl) <| QaV (.pointer (some ⟨g8,qn j 0,none⟩)) kj kj rfl (fun W=>(Qa3 _ _ _ .i64 (qn j 0) _ 16 111 rfl kj kj kj kj (by omega))) ?_
   refine QbY rfl <| QaV (.pointer (some ⟨g8,qn j 1,none⟩)) kj kj rfl (fun W=>(Qa3 _ _ _ .i64 (qn j 1) _ 16 111 rfl kj kj kj kj (by omega))) <| QbY rfl <| QaV (.pointer (some ⟨g8,qn j 2,none⟩)) kj kj rfl (fun W=>(Qa3 _ _ _ .i64 (qn j 2) _ 16 111 rfl kj kj kj kj (by omega))) <| QbY rfl <| QaV (.pointer (some ⟨g8,qn j 3,none⟩)) kj kj rfl (fun W=>(Qa3 _ _ _ .i64 (qn j 3) _ 16 111 rfl kj kj kj kj (by omega))) <| QbY rfl <| QgV (hF _ kj fun W10 e10=>?_)
   simp only [List.nil_append,List.cons_append,fins,up]
   clear hF
   have r8_10:=(Qaa r8_9 e10)
   have r22_10:=(Qaa r22_9 e10)
   refine QbL _ g8 _ (ints .u32 (((qsN x0 j).map wv).set (qn j 0) (wv (qA2 (wget (qsN x0 j) (qn j 0)) (wget (qsN x0 j) (qn j 1)) (wget (qsN x0 j) (qn j 2)) (wget (qsN x0 j) (qn j 3)))))) 123 r8_10 rfl (Qaw 111 _ _ g8 (qn j 0) 123 _ _ r8_10 rfl kj kj kj (Nat.lt_of_lt_of_eq (by omega) (QcS ((Qd0 x0 j).trans h0)).symm)) (fun W hp=>Puts.row hp r22_10 (Qav q8_2 l22)) fun W11 p11 r8_11=>?_
   have x11:=Puts.ext p11 (Ext.tr x9 e10) b8
   have r22_11:=(Puts.row p11 r22_10 (Qav q8_2 l22))
   refine QbL _ g8 _ (ints .u32 ((((qsN x0 j).map wv).set (qn j 0) (wv (qA2 (wget (qsN x0 j) (qn j 0)) (wget (qsN x0 j) (qn j 1)) (wget (qsN x0 j) (qn j 2)) (wget (qsN x0 j) (qn j 3))))).set (qn j 1) (wv (qB2 (wget (qsN x0 j) (qn j 0)) (wget (qsN x0 j) (qn j 1)) (wget (qsN x0 j) (qn j 2)) (wget (qsN x0 j) (qn j 3)))))) 123 r8_11 rfl (Qaw 111 _ _ g8 (qn j 1) 123 _ _ r8_11 rfl kj kj kj (Nat.lt_of_lt_of_eq (by omega) ((List.length_set ..).trans (QcS ((Qd0 x0 j).trans h0))).symm)) (fun W hp=>Puts.row hp r22_11 (Qav q8_2 l22)) fun W12 p12 r8_12=>?_
   have r22_12:=(Puts.row p12 r22_11 (Qav q8_2 l22))
   refine QbL _ g8 _ (ints .u32 (((((qsN x0 j).map wv).set (qn j 0) (wv (qA2 (wget (qsN x0 j) (qn j 0)) (wget (qsN x0 j) (qn j 1)) (wget (qsN x0 j) (qn j 2)) (wget (qsN x0 j) (qn j 3))))).set (qn j 1) (wv (qB2 (wget (qsN x0 j) (qn j 0)) (wget (qsN x0 j) (qn j 1)) (wget (qsN x0 j) (qn j 2)) (wget (qsN x0 j) (qn j 3))))).set (qn j 2) (wv (qC2 (wget (qsN x0 j) (qn j 0)) (wget (qsN x0 j) (qn j 1)) (wget (qsN x0 j) (qn j 2)) (wget (qsN x0 j) (qn j 3)))))) 123 r8_12 rfl (Qaw 111 _ _ g8 (qn j 2) 123 _ _ r8_12 rfl kj kj kj (Nat.lt_of_lt_of_eq (by omega) ((List.length_set ..).trans ((List.length_set ..).trans (QcS ((Qd0 x0 j).trans h0)))).symm)) (fun W hp=>Puts.row hp r22_12 (Qav q8_2 l22)) fun W13 p13 r8_13=>QbL _ g8 _ (ints .u32 ((((((qsN x0 j).map wv).set (qn j 0) (wv (qA2 (wget (qsN x0 j) (qn j 0)) (wget (qsN x0 j) (qn j 1)) (wget (qsN x0 j) (qn j 2)) (wget (qsN x0 j) (qn j 3))))).set (qn j 1) (wv (qB2 (wget (qsN x0 j) (qn j 0)) (wget (qsN x0 j) (qn j 1)) (wget (qsN x0 j) (qn j 2)) (wget (qsN x0 j) (qn j 3))))).set (qn j 2) (wv (qC2 (wget (qsN x0 j) (qn j 0)) (wget (qsN x0 j) (qn j 1)) (wget (qsN x0 j) (qn j 2)) (wget (qsN x0 j) (qn j 3))))).set (qn j 3) (wv (qD2 (wget (qsN x0 j) (qn j 0)) (wget (qsN x0 j) (qn j 1)) (wget (qsN x0 j) (qn j 2)) (wget (qsN x0 j) (qn j 3)))))) 123 r8_13 rfl (Qaw 111 _ _ g8 (qn j 3) 123 _ _ r8_13 rfl kj kj kj (Nat.lt_of_lt_of_eq (by omega) ((List.length_set ..).trans ((List.length_set ..).trans ((List.length_set ..).trans (QcS ((Qd0 x0 j).trans h0))))).symm)) (fun W hp=>Puts.row hp (Puts.row p13 r22_12 (Qav q8_2 l22)) (Qav q8_2 l22)) fun W14 p14 r8_14=>QeC <| hK20 _ _ <| Qan <| Qad (.int .i64 ((j+1:Nat):Int)) 56 rfl kj (Qal (u:=.int .i64 (IntKind.i64.wrap (((j:Nat):Int)+1))) kj (congrArg (Value.int .i64) (i64n _ _ (by omega) (by omega)))) <| sg 1 kj <| Qaz ?_
   repeat (first | with_reducible refine goX1 ?_ | with_reducible refine goX2 ?_ | with_reducible refine goX3 ?_)
   exact QaG (j+1) ⟨kj,kj,kj,kj,kj,kj,trivial⟩ ⟨(by omega),(QaC r8_14 (by rw [show qsN x0 (j+1)=qrt (qsN x0 j) (qn j 0) (qn j 1) (qn j 2) (qn j 3) from rfl]; unfold qrt; simp only [List.map_set])),(Qau.puts (Qau.puts (Qau.puts (Qau.puts (Qau.step (Qau.puts (Qau.step q7 e8) p9 (.inr (qT (Qau.size q7) (qT (qR _) l22)))) e10) p11 (.inl (by simp))) p12 (.inl (by simp))) p13 (.inl (by simp))) p14 (.inl (by simp))),(Puts.ext p14 (Puts.ext p13 (Puts.ext p12 x11 b8) b8) b8)⟩ (by show 8-(j+1)<8-j; omega)
  ·skip
   have heq20:j=8:=by have:=of_decide_eq_false c19; omega
   refine wp_exit <| hK14 _ _ <| Qan <| Qad (.int .i64 ((i+1:Nat):Int)) 57 rfl kj (Qal (u:=.int .i64 (IntKind.i64.wrap (((i:Nat):Int)+1))) kj (congrArg (Value.int .i64) (i64n _ _ (by omega) (by omega)))) <| sg 1 kj <| Qaz ?_
   repeat (first | with_reducible refine goX1 ?_ | with_reducible refine goX2 ?_ | with_reducible refine goX3 ?_)
   exact QaG (i+1) ⟨kj,kj,kj,kj,trivial⟩ ⟨(by omega),(QaC q8_2 (by rw [heq20,ex0]; rfl)),(Qau.keeps q6 q7 (Qhm (.inl (by simp)) Qj5)),xx2⟩ (by omega)
 ·skip
  have heq17:i=10:=by have:=of_decide_eq_false c13; omega
  obtain ⟨xF,exF⟩:∃ z:List Wd,z=rounds s 10:=⟨_,rfl⟩
  have hxF:xF.length=16:=by rw [exF,QeX,hs]
  subst heq17
  have r8_6_23:V1.heap[g8]? = some (.cells (ints .u32 (xF.map wv)) 123):=QaC q8_1 (by rw [exF])
  refine wp_exit <| hK9 _ _ <| sgC fun K24 hK24=>Qaj (ints .u8 (List.replicate 64 0)) 98 8 rfl kj kj fun g25 W7 l25 e7 r25_7=>sgN hK24 <| wp_seq_k fun K26 hK26=>sgB kj <| wp_block ?_
  have hP:(QcC xF s).length=64:=Qg5 _ _
  refine QaN (fun (s3:Nat)=>[(2,.pointer (some ⟨g3,0,none⟩)),(4,.pointer (some ⟨g4,0,none⟩)),(5,.pointer (some ⟨g8,0,none⟩)),(8,.pointer (some ⟨g25,0,none⟩)),(58,.int .i64 ((s3:Nat):Int))]) (fun (s3:Nat) W=>(s3≤16)∧(W.heap[g25]? = some (.cells (ints .u8 (QbW (QcC xF s) 64 (4*s3))) 98))∧(Qau [g25] W7 W)∧(Ext w W)) (fun (s3:Nat)=>16-s3) 0 ⟨kj,kj,kj,kj,kj,trivial⟩ ⟨(Nat.zero_le _),(QaC r25_7 (QcK _ 64)),(Qau.refl [g25] W7),(Ext.tr xx1 e7)⟩ fun s3 X3 V3 hI3=>?_
  obtain ⟨i,hs3⟩:∃ z,z=s3:=⟨_,rfl⟩
  subst hs3
  obtain ⟨hi,q25_3,kk3,xx3⟩:=hI3
  replace hi:i≤16:=hi
  replace q25_3:V3.heap[g25]? = some (.cells (ints .u8 (QbW (QcC xF s) 64 (4*i))) 98):=q25_3
  replace kk3:Qau [g25] W7 V3:=kk3
  replace xx3:Ext w V3:=xx3
  have q8:=kk3
  refine sgB kj <| wp_seq_k fun K29 hK29=>Qa9 (t:=decide (((i:Nat):Int)<16)) kj (fun c30=>?_) (fun c30=>?_)
  ·skip
   have hlt59:i<16:=by have:=of_decide_eq_true c30; omega
   refine wp_skip <| hK29 _ _ <| wp_seq_k fun K31 hK31=>wp_block <| sgB kj <| wp_seq_k fun K33 hK33=>QaY 7 [⟨none,[(9,none)]⟩,⟨none,[(5,none),(61,some 0)]⟩,⟨none,[(62,some 1)]⟩,⟨none,[(9,none)]⟩,⟨none,[(2,none),(64,some 3)]⟩,⟨none,[(65,some 4)]⟩,⟨none,[(63,some 2),(66,some 5)]⟩] kj kj fun F hF=>Qas (.int .i64 ((i:Nat):Int)) kj kj (fun W=>by kernel_rfl) <| Qas (.pointer (some ⟨g8,i,none⟩)) kj kj (fun W=>(Qa3 _ _ _ .i64 (i) _ 16 111 rfl kj kj kj kj (by omega))) ?_
   have r8_8:=(Qau.row q8 (Qaa r8_6_23 e7) (Qba (Qab r8_6_23 l25) Qbm))
   refine Qax (.int .u32 (wv (wget xF i))) kj kj (fun W hR=>(Qak 111 _ g8 i 123 _ (.int .u32 (wv (wget xF i))) _ (Qaa (Qaa r8_8 (Qai _)) hR) rfl kj ((Qar _ _ _ (Nat.lt_of_lt_of_eq (by omega) (QcS hxF).symm)).trans (congrArg (fun z=>some (Value.int .u32 z)) (Qcq xF i))) kj)) <| Qas (.int .i64 ((i:Nat):Int)) kj kj (fun W=>by kernel_rfl) <| Qas (.pointer (some ⟨g3,i,none⟩)) kj kj (fun W=>(Qa3 _ _ _ .i64 (i) _ 16 111 rfl kj kj kj kj (by omega))) ?_
   have r3_6:=(Qau.row q6 (Puts.row p5 (Qaa r3_3_6 e4) (Qab r3_3_6 l8)) (Qba (Qab r3_3_6 l8) Qbm))
   refine Qax (.int .u32 (wv (wget s i))) kj kj (fun W hR=>(Qak 111 _ g3 i 123 _ (.int .u32 (wv (wget s i))) _ (Qaa (Qaa (Qau.row q8 (Qaa r3_6 e7) (Qba (Qab r3_6 l25) Qbm)) (Qai _)) hR) rfl kj ((Qar _ _ _ (Nat.lt_of_lt_of_eq (by omega) (QcS hs).symm)).trans (congrArg (fun z=>some (Value.int .u32 z)) (Qcq s i))) kj)) <| Qas (.int .u32 (wv (((wget xF i))+((wget s i))))) kj kj (fun W=>(Qal kj (congrArg (Value.int .u32) (Qez _ _)))) <| QaT (hF _ kj fun W9 e9=>?_)
   simp only [ups,up,Kn.val,List.take_succ_cons,List.take_zero,List.drop_succ_cons,List.drop_zero,List.nil_append,List.cons_append]
   clear hF
   have x9:=Ext.tr xx3 e9
   refine sg 1 kj <| sgN hK33 <| sgB kj <| wp_block <| QaN (fun (s4:Nat)=>[(2,.pointer (some ⟨g3,0,none⟩)),(4,.pointer (some ⟨g4,0,none⟩)),(5,.pointer (some ⟨g8,0,none⟩)),(8,.pointer (some ⟨g25,0,none⟩)),(58,.int .i64 ((i:Nat):Int)),(9,.int .i64 ((i:Nat):Int)),(10,.int .u32 (wv (wget xF i+wget s i))),(68,.int .i64 ((s4:Nat):Int))]) (fun (s4:Nat) W=>(s4≤4)∧(W.heap[g25]? = some (.cells (ints .u8 (QbW (QcC xF s) 64 (4*i+s4))) 98))∧(Qau [g25] W9 W)∧(Ext w W)) (fun (s4:Nat)=>4-s4) 0 ⟨kj,kj,kj,kj,kj,kj,kj,kj,trivial⟩ ⟨(Nat.zero_le _),(QaC (Qaa q25_3 e9) rfl),(Qau.refl [g25] W9),x9⟩ fun s4 X4 V4 hI4=>?_
   obtain ⟨j,hs4⟩:∃ z,z=s4:=⟨_,rfl⟩
   subst hs4
   obtain ⟨hj,q25_4,kk4,xx4⟩:=hI4
   replace hj:j≤4:=hj
   replace q25_4:V4.heap[g25]? = some (.cells (ints .u8 (QbW (QcC xF s) 64 (4*i+j))) 98):=q25_4
   replace kk4:Qau [g25] W9 V4:=kk4
   replace xx4:Ext w V4:=xx4
   have q10:=kk4
   refine sgB kj <| wp_seq_k fun K36 hK36=>Qa9 (t:=decide (((j:Nat):Int)<4)) kj (fun c37=>?_) (fun c37=>?_)
   ·skip
    have hlt69:j<4:=by have:=of_decide_eq_true c37; omega
    refine wp_skip <| hK36 _ _ <| wp_seq_k fun K38 hK38=>wp_block <| sgB kj <| Qan <| sg 1 kj <| Qad (.int .i64 ((4*i:Nat):Int)) 72 rfl kj (Qal (u:=.int .i64 (IntKind.i64.wrap (4*((i:Nat):Int)))) kj (congrArg (Value.int .i64) (i64n _ _ (by omega) (by omega)))) <| sg 1 kj <| Qad (.int .i64 (((4*i)+j:Nat):Int)) 74 rfl kj (Qal (u:=.int .i64 (IntKind.i64.wrap (((4*i:Nat):Int)+((j:Nat):Int)))) kj (congrArg (Value.int .i64) (i64n _ _ (by omega) (by omega)))) ?_
    refine sg 2 kj <| Qad (.int .i64 ((8*j:Nat):Int)) 77 rfl kj (Qal (u:=.int .i64 (IntKind.i64.wrap (8*((j:Nat):Int)))) kj (congrArg (Value.int .i64) (i64n _ _ (by omega) (by omega)))) <| Qad (.int .u32 (wv ((wget xF i+wget s i)>>>(8*j)))) 78 rfl kj (Qbc .shr _ _ _ _ .u32 .i64 _ _ _ rfl kj kj (Qdf _ _ _ _ _ _ (by omega) (QjZ _ _ (8*j) rfl (by omega)))) <| Qad (.int .u8 (nth (QcC xF s) (4*i+j))) 79 rfl kj (Qal (u:=.int .u8 (IntKind.u8.wrap (wv ((wget xF i+wget s i)>>>(8*j))))) kj (congrArg (Value.int .u8) (QqI xF s i j hlt59 hlt69))) <| Qad (.pointer (some ⟨g25,(4*i)+j,none⟩)) 80 rfl kj (Qa3 _ _ _ .i64 ((4*i)+j) _ 64 5 rfl kj kj kj kj (by omega)) <| Qah g25 _ (ints .u8 ((QbW (QcC xF s) 64 (4*i+j)).set ((4*i)+j) (nth (QcC xF s) (4*i+j)))) 98 q25_4 rfl kj (Qaw 5 _ _ g25 ((4*i)+j) 98 _ _ q25_4 rfl kj kj kj (Nat.lt_of_lt_of_eq (by omega) (Qdr _ 64 _ hP (by omega)).symm)) fun W11 p11 r25_11=>?_
    have x11:=Puts.ext p11 xx4 (qT xx1.size l25)
    refine Qaz <| hK38 _ _ <| Qan <| Qad (.int .i64 ((j+1:Nat):Int)) 81 rfl kj (Qal (u:=.int .i64 (IntKind.i64.wrap (((j:Nat):Int)+1))) kj (congrArg (Value.int .i64) (i64n _ _ (by omega) (by omega)))) <| sg 1 kj <| Qaz ?_
    repeat (first | with_reducible refine goX1 ?_ | with_reducible refine goX2 ?_ | with_reducible refine goX3 ?_)
    exact QaG (j+1) ⟨kj,kj,kj,kj,kj,kj,kj,kj,trivial⟩ ⟨(by omega),(QaC r25_11 (QcL _ 64 (4*i+j) hP (by omega))),(Qau.puts q10 p11 (.inl (by simp))),x11⟩ (by omega)
   ·skip
    have heq69:j=4:=by have:=of_decide_eq_false c37; omega
    refine wp_exit <| hK31 _ _ <| Qan <| Qad (.int .i64 ((i+1:Nat):Int)) 82 rfl kj (Qal (u:=.int .i64 (IntKind.i64.wrap (((i:Nat):Int)+1))) kj (congrArg (Value.int .i64) (i64n _ _ (by omega) (by omega)))) <| sg 1 kj <| Qaz ?_
    repeat (first | with_reducible refine goX1 ?_ | with_reducible refine goX2 ?_ | with_reducible refine goX3 ?_)
    exact QaG (i+1) ⟨kj,kj,kj,kj,kj,trivial⟩ ⟨(by omega),(QaC q25_4 (by rw [heq69]; rfl)),(Qau.keeps (Qau.step q8 e9) q10 (Qhm (.inl (by simp)) Qj5)),xx4⟩ (by omega)
  ·skip
   have heq59:i=16:=by have:=of_decide_eq_false c30; omega
   subst heq59
   have r25_8_40:V3.heap[g25]? = some (.cells (ints .u8 (QcC xF s)) 98):=QaC q25_3 (Qc3 _ 64 hP)
   refine wp_exit <| hK26 _ _ <| sgC fun K41 hK41=>Qad (.agg (ints .u8 (QcC xF s))) 83 rfl kj (Qae 98 _ g25 98 _ _ r25_8_40 rfl kj kj (isz (n:=64) kj ((Qac _ _).trans hP))) ?_
   have r4_3:=(Puts.row p3 r4_2 (Qav r3_1 l4))
   have r4_6:=(Qau.row q6 (Puts.row p5 (Qaa r4_3 e4) (Qab r4_3 l8)) (Qba (Qab r4_3 l8) Qbm))
   have r4_8:=(Qau.row q8 (Qaa r4_6 e7) (Qba (Qab r4_6 l25) Qbm))
   refine Qah g4 _ (ints .u8 (QcC xF s)) 98 r4_8 rfl kj (Qaf 98 _ _ g4 98 _ _ r4_8 rfl kj kj (isz (n:=64) kj ((Qac _ _).trans hP)) (eqsz (n:=64) ((Qac _ _).trans (qZ (n:=64))) ((Qac _ _).trans hP)) (ints_one _ _)) fun W9 p9 r4_9=>?_
   have x9:=Puts.ext p9 xx3 (qT x1.size l4)
   refine sgN hK41 <| wp_ret ?_
   repeat (first | with_reducible refine goR1 ?_ | with_reducible refine goR2 ?_)
   exact (show bodyPost _ _ _ .ret _ _ from ret1 (.agg (ints .u8 (QcC xF s))) rfl (QaZ g4 98 _ r4_9 kj kj (isz (n:=64) kj ((Qac _ _).trans hP))) ⟨by unfold Qbu; rw [exF,es],x9⟩)
end Go.Proofs.YtmljnchhgkfemaaDoor.Cha
end
section
namespace Go.Proofs.YtmljnchhgkfemaaDoor.Cha
open Go Go.RowKit
open Rely Auto Own Sha
open Sha
def Qbb (key nonce:List Int):List Wd:=[1634760805,857760878,2036477234,1797285236,le4 (sub4 key 0),le4 (sub4 key 1),le4 (sub4 key 2),le4 (sub4 key 3),le4 (sub4 key 4),le4 (sub4 key 5),le4 (sub4 key 6),le4 (sub4 key 7),0,le4 (sub4 nonce 0),le4 (sub4 nonce 1),le4 (sub4 nonce 2)]
theorem Qek (key nonce:List Int):(Qbb key nonce).length=16:=rfl
theorem QnI (key nonce:List Int):([1634760805,857760878,2036477234,1797285236,wv (le4 (sub4 key 0)),wv (le4 (sub4 key 1)),wv (le4 (sub4 key 2)),wv (le4 (sub4 key 3)),wv (le4 (sub4 key 4)),wv (le4 (sub4 key 5)),wv (le4 (sub4 key 6)),wv (le4 (sub4 key 7)),0,wv (le4 (sub4 nonce 0)),wv (le4 (sub4 nonce 1)),wv (le4 (sub4 nonce 2))]:List Int)=(Qbb key nonce).map wv:=rfl
theorem QbU (ws : List Wd) (n:Int):(Qbu ws n).length=64:=Qg5 _ _
set_option maxRecDepth 100000 in
theorem Qpd (key nonce:List Int) (v:Value) (B:Nat) (number:Int) (th tq:TypeId) (w:World) (hh:w.heap[2]? = some (.cells (ints .u32 qH) th)) (hq:w.heap[3]? = some (.cells (ints .i64 qQ) tq)) (hkl:key.length=32) (hn:RdK .u8 B nonce v w) (h:nonce.length=12) (h1:0≤number) (h2:number≤4294967295):Calls Tryd.prog 55 #[.agg (ints .u8 key),v,.int .i64 number] w (Ret w (.tuple #[.agg (ints .u8 (Qbu (Qbb key nonce) number)),.nilIface])):=by
  obtain ⟨a_n,c_n,rfl,-⟩:=id hn
  refine enter 21 [(0,.agg (ints .u8 (key))),(1,.slice a_n nonce.length c_n),(2,.int .i64 number)] Tryd.func55 rfl rfl kj rfl <| sgC fun K3 hK3=>Qaj (ints .u8 (key)) 23 3 rfl kj kj fun g4 W1 l4 e1 r4_1=>?_
  have x1:=Ext.tr (Rely.Ext.refl w) e1
  have b4:=qT (Rely.Ext.refl w).size l4
  refine Qaj (ints .u8 (List.replicate 64 0)) 98 6 rfl kj kj fun g5 W2 l5 e2 r5_2=>?_
  have x2:=Ext.tr x1 e2
  refine sg 1 kj <| sgN hK3 <| wp_seq_k fun K6 hK6=>sgC fun K7 hK7=>sg 2 kj <| Qao (.nilIface) 53 #[.slice a_n nonce.length c_n,.int .i64 number] 11 rfl kj kj ((Qjj nonce _ _ number _ (RdK.ext hn x2) h h1 h2)) fun W3 e3=>?_
  have x3:=Ext.tr x2 e3
  refine sg 1 kj <| sgN hK7 <| sgB kj <| cond_false kj <| wp_skip <| hK6 _ _ <| sgC fun K9 hK9=>Qad (.agg (ints .u8 (key))) 16 rfl kj (Qae 23 _ g4 23 _ _ (Qaa (Qaa r4_1 e2) e3) rfl kj kj (isz (n:=32) kj ((Qac _ _).trans hkl))) <| sg 1 kj <| Qao (.agg (ints .u32 ((Qbb key nonce).map wv))) 74 #[.agg (ints .u8 (key)),.slice a_n nonce.length c_n] 18 rfl kj kj ((by rw [←QnI]; exact QnJ key nonce _ _ th _ (Qaa (Qaa (Qaa hh e1) e2) e3) hkl (RdK.ext hn x3) h)) fun W4 e4=>?_
  refine sg 1 kj <| Qao (.agg (ints .u8 (Qbu (Qbb key nonce) number))) 76 #[.agg (ints .u32 ((Qbb key nonce).map wv)),.int .i64 number] 20 rfl kj kj ((QnP (Qbb key nonce) number tq _ (Qaa (Qaa (Qaa (Qaa hq e1) e2) e3) e4) (Qek _ _))) fun W5 e5=>?_
  have r5_5:=(Qaa (Qaa (Qaa r5_2 e3) e4) e5)
  refine Qah g5 _ (ints .u8 (Qbu (Qbb key nonce) number)) 98 r5_5 rfl kj (Qaf 98 _ _ g5 98 _ _ r5_5 rfl kj kj (isz (n:=64) kj ((Qac _ _).trans (QbU _ _))) (eqsz (n:=64) ((Qac _ _).trans (qZ (n:=64))) ((Qac _ _).trans (QbU _ _))) (ints_one _ _)) fun W6 p6 r5_6=>sg 1 kj <| sgN hK9 <| wp_ret ?_
  repeat (first | with_reducible refine goR1 ?_ | with_reducible refine goR2 ?_)
  exact (show bodyPost _ _ _ .ret _ _ from ret2 (.agg (ints .u8 (Qbu (Qbb key nonce) number))) (.nilIface) rfl (QaZ g5 98 _ r5_6 kj kj (isz (n:=64) kj ((Qac _ _).trans (QbU _ _)))) (QaM kj) ⟨rfl,(Puts.ext p6 (Ext.tr (Ext.tr x3 e4) e5) (qT x1.size l5))⟩)
end Go.Proofs.YtmljnchhgkfemaaDoor.Cha
end
section
namespace Go.Proofs.YtmljnchhgkfemaaDoor.Cha
open Go Go.RowKit
open Rely Auto Own Sha
open Sha
theorem Qbi {b : List Int} (h:Qag b) (j:Nat):0≤nth b j∧nth b j<256:=by
  unfold nth
  rw [List.getD_eq_getElem?_getD]
  rcases Nat.lt_or_ge j b.length with hj | hj
  · rw [List.getElem?_eq_getElem hj]
    have h1:=h _ (List.getElem_mem hj)
    show 0≤b[j]∧b[j]<256
    omega
  · rw [List.getElem?_eq_none hj]; decide
def mxv (text : List Int) (ws:List Wd) (num:Int) (f:Nat→Nat) (m:Nat):List Int:=(List.range m).map fun i=>bits .xor .u8 (nth text i) (nth (Qbu ws (num+((f (i/64):Nat):Int))) (i%64))
def mixV (ws : List Wd) (num:Int) (text:List Int):List Int:=mxv text ws num id text.length
theorem Qe5 (text : List Int) (ws:List Wd) (num:Int) (f:Nat→Nat) (m:Nat):(mxv text ws num f m).length=m:=by simp [mxv]
end Go.Proofs.YtmljnchhgkfemaaDoor.Cha
end
section
namespace Go.Proofs.YtmljnchhgkfemaaDoor.Auto
open Go Go.RowKit
open Rely Own
variable {ds : List Deferred} {Fe : Fence} {nf : Nat}
section
variable {P : Program} {ops : Array Oper} {Q : Exit → Act → World → Prop} {rest : List Oper} {o : Oper} {N : Nat} {L : Env} {w : World}
theorem QoQ (v : Value) (f:FuncId) (args:Array Value) (d:Nat) (hd:o.dst=some d) (hF:Free Fe nf P) (hnd:Qcr o=true) (hg:Qcd ops o N L=some true) (h:(execOp (Rely.look (envN N L)) o).run P w=.ok (.enter f args) w)
    (hc:Calls P f args w (Ret w v)) (k:∀ W:World,Ext w W→WLI Fe nf P ops Q rest (Qap ds N ((d,v)::L)) W):WLI Fe nf P ops Q (o::rest) (Qap ds N L) w :=
  QlP hF hnd hg fun K hK=>by
    rw [h]
    refine ⟨hF.dp,(hF.calls hc).mono ?_⟩
    rintro e w' ⟨rfl,hw⟩
    show K _ _
    rw [hd,QbD]
    exact hK _ _ (k _ hw)
end
section
variable {P : Program} {Q : Exit → Act → World → Prop} {w : World} {N : Nat} {L : Env}
end
theorem QhR (N : Nat) (L:Env) (p q:Nat) (v u:Value):({ tmps:=(#[p,q].zip #[v,u]).foldl (fun t (p,v)=>t.setIfInBounds p v) (Qap ds N L).tmps,defers:=[] }:Act)=Qap [] N ((q,u)::(p,v)::L):=by
  rw [←QbD,←QbD]
  simp [Act.put,Qap]
theorem QiH {α : Type} {P:Program} {g:Operand} {p q:Tmp} {assign body:Code} {Q:Exit→Act→World→Prop} {N:Nat} {L:Env} {w:World}
    {gf:Nat} {lb:Array Value} (hg:Rely.look (envN N L) g=.func (.func gf) #[] lb) (eg:∀ args w,(callFunc gf args).run P w=.ok (.enter gf args) w)
    {enc enc2:α→Value} {Kp:World→World→Prop} {S Sp:List α→Prop} {M:Nat} {w0:World} (hseq:SeqStopsK Fence.wide 2 P gf lb (fun x=>#[enc x,enc2 x]) Kp S Sp M w0)
    (hKt:∀ {A B C:World},Kp A B→Kp B C→Kp A C) (hKb:∀ (W:World) (l:Nat) (o o':Obj),w.heap.size≤l→W.heap[l]? = some o→o.isCells=false→o.isWalk=false→Kp W (W.putObj l o')) (hb0:Below w0.heap.size w0 w)
    (I:List α→World→Prop) (Ix:Code→List α→World→Prop) (hI:OwnFrom w.heap.size I) (hIx:∀ c,OwnFrom w.heap.size (Ix c)) (h0:I [] w)
    (hKe:∀ {A B:World},Ext A B→Kp A B) (hIe:∀ pre {A B:World},I pre A→Ext A B→I pre B) (hIs:∀ pre W,I pre W→w.heap.size≤W.heap.size)
    (asg:α→Nat→Env) (cs:α→Array Value) (T:TypeId)
    (hassign:∀ (l:Nat) (x:α) (W:World) (K:Act→World→Prop),(∀ g W',W.heap.size≤g→Ext W W'→W'.heap[g]? = some (.cells (cs x) T)→K (Qap [] N (asg x g++L)) W')→assign.wpIn (Fence.wide.inRound l) 1 P (Exit.then K (fun _ _ _=>False)) (Qap [] N ((q,enc2 x)::(p,enc x)::L)) W)
    (hbody:∀ (l:Nat) (pre:List α) (x:α) (g:Nat) (W:World),w.heap.size≤g→I pre W→W.heap[g]? = some (.cells (cs x) T)→pre.length<M→body.wpIn (Fence.wide.inRound l) 1 P (ownPostK Kp I Ix (pre++[x]) W) (Qap [] N (asg x g++L)) W)
    (hdone:∀ (D:Nat) (xs:List α) (W:World),w.heap.size≤D→S xs→I xs W→W.heap[D]? = some (.deferred (some []))→Q .normal (Qap (mark D::ds) N L) W)
    (hstop:∀ (D:Nat) (c:Code) (pre:List α) (W:World),w.heap.size≤D→Sp pre→Ix c pre W→W.heap[D]? = some (.deferred (some []))→c.wp P Q (Qap (mark D::ds) N L) W) :
    (Code.rangeFunc g #[p,q] assign body).wp P Q (Qap ds N L) w:=by
  refine (wpIn_wide (n:=3)).1 <| wpIn_rangeFunc_ownH rfl (by omega) (by rw [QbV]; exact hg) trivial eg (w0:=w0) hseq hKt hKb hb0 (fun _=>rfl) I Ix hI hIx h0
    (fun x a' W=>∃ g,a'=Qap [] N (asg x g++L)∧w.heap.size≤g∧W.heap[g]? = some (.cells (cs x) T)) ?_ (fun l pre x W K hi hK=>?_) ?_ ?_ ?_
  · rintro x a' _ X Y row ⟨g,e,hl,r⟩ hgr hr
    exact ⟨g,e,hl,Qbl r hgr (fun q e=>(hr q e).2)⟩
  · rw [QhR]
    refine hassign l x W K fun g W' hg' e r=>hK _ _ ((Qdo e).from _) (hKe e) (hIe pre hi e) ⟨g,rfl,qT (hIs pre W hi) hg',r⟩
  · rintro l pre x a' W _ _ hi ⟨g,rfl,hl,r⟩ hlen
    exact wpIn_mono (hbody l pre x g W hl hi r hlen) ownPostG_of_ownPostK
  · intro D xs W h1 h2 h3 h4
    exact hdone D xs W h1 h2 h3 h4
  · intro D c pre W h1 h2 h3 h4
    exact wpIn_wide.2 (hstop D c pre W h1 h2 h3 h4)
theorem QiX {α : Type} {P:Program} {body:Code} {Q:Exit→Act→World→Prop} {N:Nat} {L:Env} {w:World} (live:α→Env) (I:α→World→Prop) (μ:α→Nat) (s0:α) (hL:Qjq L (live s0)) (h0:I s0 w)
    (round:∀ (s:α) (X:Env) (W:World),I s W→body.wpIn Fe nf P (Exit.then (Goes ds N live I μ s) Q) (Qap ds N (live s++X)) W):(Code.loop body).wpIn Fe nf P Q (Qap ds N L) w:=by
  rw [←Qgr hL]
  refine Go.wpIn_loop_ghost (fun n a W=>∃ (s:α) (X:Env),a=Qap ds N (live s++X)∧I s W∧μ s=n) (μ s0) ⟨s0,L,rfl,h0,rfl⟩ ?_
  rintro n a W ⟨s,X,rfl,hI,rfl⟩
  refine wpIn_mono (round s X W hI) fun e a' w' h=>?_
  cases e <;> try exact h
  obtain ⟨s',X',h1,h2,h3⟩:=h
  exact ⟨μ s',h3,s',X',h1,h2,rfl⟩
theorem Qk5 {P : Program} {id:Nat} {Q:Exit→Act→World→Prop} {N:Nat} {L:Env} {w:World} {l:List Oper} (n:Nat) (S:List Src) (hFr:Free Fe nf P) (hdf:(l.all Qcr)=true) (hm:P.follows .mixedOrders=true) (hok:ok l n N S=true)
    (h:∀ F:List KE→Prop,(∀ C,(∀ W,Ext w W→finE (fun L W=>WLI Fe nf P l.toArray Q (l.drop n) (Qap ds N L) W) (l.take n) C L W)→F C)→Qb5 P Ext w.drew N L F (l.take n) S []) :
    (Code.region id l.toArray true).wpIn Fe nf P Q (Qap ds N L) w :=
  QgF Ext Rely.Ext.refl Rely.Ext.trans n S hFr hdf hm hok fun F hF=>h F fun C hC=>hF C fun W hR=>hC W (Rely.Ext.trans (Qai w) hR)
section
variable {P : Program} {ops : Array Oper} {Q : Exit → Act → World → Prop} {rest : List Oper} {o : Oper} {N : Nat} {L : Env} {W : World}
end
theorem goXj {K : Act→World→Prop} {Q:Exit→Act→World→Prop} {a:Act} {w:World} {n m:Nat} (h:n≠m) (k:Q (.exit n) a w):Exit.inBlock m Q (.exit n) a w:=by
  unfold Exit.inBlock
  simp [h]
  exact k
end Go.Proofs.YtmljnchhgkfemaaDoor.Auto
end
section
namespace Go.Proofs.YtmljnchhgkfemaaDoor.Cha
open Go Go.RowKit
open Rely Auto Own Sha
open Sha
set_option maxRecDepth 100000 in
theorem QhZ (m : Nat) (gs:List Nat) (g1 g2:Nat) (ws:List Wd) (number:Int) (r:Nat) (tq:TypeId) (w:World) (hr:number+(r:Int)=4294967296) (h1:0≤number) (h2:number≤4294967295) (hw:ws.length=16)
  (hqw:w.heap[3]? = some (.cells (ints .i64 qQ) tq)) (r1w:w.heap[g1]? = some (.cells #[.int .i64 number] 3)) (r2w:w.heap[g2]? = some (.cells (ints .u32 (ws.map wv)) 123)) (n1:g1∉gs) (n2:g2∉gs) (nq:3∉gs) :
  SeqStopsK Fence.wide m Tryd.prog 75 #[.pointer (some ⟨g1,0,none⟩),.pointer (some ⟨g2,0,none⟩)] (fun i:Nat=>#[Value.int .i64 (number+((i:Nat):Int)),Value.agg (ints .u8 (Qbu ws (number+((i:Nat):Int))))]) (QbS gs) (fun ys=>ys=List.range r) (fun ys=>∃ k,ys=List.range k∧k≤r) r w:=fun l J Jx Wi hW hJ hJx hY h0=>by
 refine callsIn_wide.2 ?_
 have hqi:=Qaa hqw hW
 have r1:=Qaa r1w hW
 refine enter 17 [(0,.func (.yield l) #[] #[]),(1,.pointer (some ⟨g1,0,none⟩)),(2,.pointer (some ⟨g2,0,none⟩))] Tryd.func75 rfl rfl kj rfl <| sgC fun K4 hK4=>Qad (.int .i64 number) 5 rfl kj (Qak 3 _ g1 0 3 _ (.int .i64 number) _ r1 rfl kj kj kj) <| sg 1 kj <| sgN hK4 <| wp_block <| QaN (fun (s1:Nat)=>[(0,.func (.yield l) #[] #[]),(1,.pointer (some ⟨g1,0,none⟩)),(2,.pointer (some ⟨g2,0,none⟩)),(4,.int .i64 (number+((s1:Nat):Int)))]) (fun (s1:Nat) W=>(s1≤r)∧(J (List.range s1) W)∧(W.heap[g1]? = some (.cells #[.int .i64 number] 3))∧(W.heap[g2]? = some (.cells (ints .u32 (ws.map wv)) 123))∧(W.heap[3]? = some (.cells (ints .i64 qQ) tq))∧(Grew Wi W)) (fun (s1:Nat)=>r-s1) 0 ⟨kj,kj,kj,(congrArg (Value.int .i64) (show number=number+((0:Nat):Int) by omega)),trivial⟩ ⟨(Nat.zero_le _),(show J (List.range 0) _ from h0),r1,(Qaa r2w hW),hqi,(Grew.refl Wi)⟩ fun s1 X1 V1 hI1=>?_
 obtain ⟨k,hs1⟩:∃ z,z=s1:=⟨_,rfl⟩
 subst hs1
 obtain ⟨hkl_,hJ1,rr1,rr2,rrq,xx1⟩:=hI1
 replace hkl_:k≤r:=hkl_
 replace hJ1:J (List.range k) V1:=hJ1
 replace rr1:V1.heap[g1]? = some (.cells #[.int .i64 number] 3):=rr1
 replace rr2:V1.heap[g2]? = some (.cells (ints .u32 (ws.map wv)) 123):=rr2
 replace rrq:V1.heap[3]? = some (.cells (ints .i64 qQ) tq):=rrq
 replace xx1:Grew Wi V1:=xx1
 refine wp_seq_k fun K5 hK5=>sgB kj <| Qa9 (t:=decide ((number+((k:Nat):Int))≤4294967295)) kj (fun c7=>?_) (fun c7=>?_)
 ·skip
  have hlt:k<r:=by have:=of_decide_eq_true c7; omega
  refine wp_skip <| hK5 _ _ <| wp_seq_k fun K8 hK8=>wp_block <| wp_seq_k fun K9 hK9=>(wpIn_wide (n:=m)).1 <| Qbs <| QbJ (.func (.yield l) #[] #[]) 10 rfl (Qb3 _ _) rfl kj kj <| QbJ (.int .i64 (number+((k:Nat):Int))) 11 rfl (Qb3 _ _) rfl kj kj <| QbJ (.agg (ints .u32 (ws.map wv))) 12 rfl (Qb3 _ _) rfl kj (Qae 123 _ g2 123 _ _ rr2 rfl kj kj (isz (n:=16) kj ((Qac _ _).trans (QcS hw)))) ?_
  refine QbJ (.int .i64 (number+((k:Nat):Int))) 13 rfl (Qb3 _ _) rfl kj kj <| QoQ (.agg (ints .u8 (Qbu ws (number+((k:Nat):Int))))) 76 #[.agg (ints .u32 (ws.map wv)),.int .i64 (number+((k:Nat):Int))] 14 rfl (Qb3 _ _) rfl kj kj ((QnP ws (number+((k:Nat):Int)) tq _ rrq hw)) fun W2 e2=>QjC (m:=m) (l:=l) (args:=#[.int .i64 (number+((k:Nat):Int)),.agg (ints .u8 (Qbu ws (number+((k:Nat):Int))))]) 15 rfl rfl kj kj (hY (List.range k) k W2 (QgR hJ hJ1 (Rely.Ext.trans (Rely.Ext.refl V1) e2)) (by rw [List.length_range]; omega)) (fun W' hA=>?_) (fun W' hA=>?_)
  ·skip
   obtain ⟨W3,hW3⟩:∃ z,z=W':=⟨_,rfl⟩
   rw [←hW3] at hA ⊢
   obtain ⟨hj10,hk10⟩:=hA
   refine QbJ (.bool false) 16 rfl (Qb3 _ _) rfl kj kj <| Qdp <| hK9 _ _ <| cond_false kj <| wp_skip <| hK8 _ _ <| Qan <| sg 1 kj <| Qad (.int .i64 (number+((k+1:Nat):Int))) 9 rfl kj (Qal (u:=.int .i64 (IntKind.i64.wrap ((number+((k:Nat):Int))+1))) kj (congrArg (Value.int .i64) (by rw [show number+((k:Nat):Int)+1=number+((k+1:Nat):Int) by omega]; exact IntWalk.i64_in _ (by omega)))) ?_
   refine sg 1 kj <| Qaz ?_
   repeat (first | with_reducible refine goX1 ?_ | with_reducible refine goX2 ?_ | with_reducible refine goX3 ?_)
   exact QaG (k+1) ⟨kj,kj,kj,kj,trivial⟩ ⟨(by omega),(by rw [List.range_succ]; exact hj10),(QbS.row hk10 (Qaa rr1 e2) n1),(QbS.row hk10 (Qaa rr2 e2) n2),(QbS.row hk10 (Qaa rrq e2) nq),(Grew.keepC (Grew.ext xx1 e2) hk10)⟩ (by show r-(k+1)<r-k; omega)
  ·skip
   obtain ⟨W3,hW3⟩:∃ z,z=W':=⟨_,rfl⟩
   rw [←hW3] at hA ⊢
   refine QbJ (.bool true) 16 rfl (Qb3 _ _) rfl kj kj <| Qdp <| hK9 _ _ <| cond_true kj <| wp_ret ?_
   repeat (first | with_reducible refine goR1 ?_ | with_reducible refine goR2 ?_)
   exact (show bodyPost _ _ _ .ret _ _ from ret0 rfl ⟨⟨_,rfl⟩,.inr ⟨_,⟨k+1,List.range_succ.symm,hlt⟩,hA⟩⟩)
 ·skip
  have hke:k=r:=by have:=of_decide_eq_false c7; omega
  refine wp_exit ?_
  repeat (first | with_reducible refine goX1 ?_ | with_reducible refine goX2 ?_ | with_reducible refine goX3 ?_)
  exact (show bodyPost _ _ _ .normal _ _ from end0 rfl ⟨⟨_,rfl⟩,.inl ⟨_,congrArg List.range hke,hJ1⟩⟩)
set_option maxRecDepth 100000 in
theorem QmK (key nonce:List Int) (v:Value) (B:Nat) (number:Int) (th tq:TypeId) (w:World) (hh:w.heap[2]? = some (.cells (ints .u32 qH) th)) (hq:w.heap[3]? = some (.cells (ints .i64 qQ) tq)) (hkl:key.length=32) (hn:RdK .u8 B nonce v w) (h:nonce.length=12) (h1:0≤number) (h2:number≤4294967295):Calls Tryd.prog 54 #[.agg (ints .u8 key),v,.int .i64 number] w (QcB w (fun v W=>∃ g1 g2,v=.func (.func 75) #[] #[.pointer (some ⟨g1,0,none⟩),.pointer (some ⟨g2,0,none⟩)]∧w.heap.size≤g1∧w.heap.size≤g2∧W.heap[g1]? = some (.cells #[.int .i64 number] 3)∧W.heap[g2]? = some (.cells (ints .u32 ((Qbb key nonce).map wv)) 123))):=by
  obtain ⟨a_n,c_n,rfl,-⟩:=id hn
  refine enter 16 [(0,.agg (ints .u8 (key))),(1,.slice a_n nonce.length c_n),(2,.int .i64 number)] Tryd.func54 rfl rfl kj rfl <| sgC fun K3 hK3=>Qaj (ints .u8 (key)) 23 3 rfl kj kj fun g4 W1 l4 e1 r4_1=>?_
  have x1:=Ext.tr (Rely.Ext.refl w) e1
  have b4:=qT (Rely.Ext.refl w).size l4
  refine Qaj (#[.int .i64 number]) 3 5 rfl kj kj fun g5 W2 l5 e2 r5_2=>?_
  have x2:=Ext.tr x1 e2
  refine sg 1 kj <| sgN hK3 <| wp_seq_k fun K6 hK6=>sgC fun K7 hK7=>sg 1 kj <| Qad (.int .i64 number) 9 rfl kj (Qak 3 _ g5 0 3 _ (.int .i64 number) _ r5_2 rfl kj kj kj) <| Qao (.nilIface) 53 #[.slice a_n nonce.length c_n,.int .i64 number] 10 rfl kj kj ((Qjj nonce _ _ number _ (RdK.ext hn x2) h h1 h2)) fun W3 e3=>?_
  have x3:=Ext.tr x2 e3
  refine sg 1 kj <| sgN hK7 <| cond_false kj <| wp_skip <| hK6 _ _ <| sgC fun K8 hK8=>Qad (.agg (ints .u8 (key))) 12 rfl kj (Qae 23 _ g4 23 _ _ (Qaa (Qaa r4_1 e2) e3) rfl kj kj (isz (n:=32) kj ((Qac _ _).trans hkl))) <| sg 1 kj <| Qao (.agg (ints .u32 ((Qbb key nonce).map wv))) 74 #[.agg (ints .u8 (key)),.slice a_n nonce.length c_n] 14 rfl kj kj ((by rw [←QnI]; exact QnJ key nonce _ _ th _ (Qaa (Qaa (Qaa hh e1) e2) e3) hkl (RdK.ext hn x3) h)) fun W4 e4=>?_
  have x4:=Ext.tr x3 e4
  refine Qaj (ints .u32 ([0,0,0,0,0,0,0,0,0,0,0,0,0,0,0,0])) 123 7 rfl kj kj fun g9 W5 l9 e5 r9_5=>?_
  have b9:=qT x4.size l9
  refine Qah g9 _ (ints .u32 ((Qbb key nonce).map wv)) 123 r9_5 rfl kj (Qaf 123 _ _ g9 123 _ _ r9_5 rfl kj kj (isz (n:=16) kj ((Qac _ _).trans (QcS (Qek _ _)))) (eqsz (n:=16) kj ((Qac _ _).trans (QcS (Qek _ _)))) (ints_one _ _)) fun W6 p6 r9_6=>sgN hK8 <| sgB kj <| wp_ret ?_
  repeat (first | with_reducible refine goR1 ?_ | with_reducible refine goR2 ?_)
  have r5_4:=(Qaa (Qaa r5_2 e3) e4)
  exact (show bodyPost _ _ _ .ret _ _ from ret1 (.func (.func 75) #[] #[.pointer (some ⟨g5,0,none⟩),.pointer (some ⟨g9,0,none⟩)]) rfl (QaM kj) ⟨_,rfl,(Puts.ext p6 (Ext.tr x4 e5) b9),_,_,rfl,(qT x1.size l5),b9,(Puts.row p6 (Qaa r5_4 e5) (Qab r5_4 l9)),r9_6⟩)
end Go.Proofs.YtmljnchhgkfemaaDoor.Cha
end
