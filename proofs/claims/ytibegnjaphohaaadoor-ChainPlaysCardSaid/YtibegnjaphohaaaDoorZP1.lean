/- Texts of this claim, joined (P1). -/
import Derived.Test.YtibegnjaphohaaaDoorZP0
import Derived.Lib.AppendZeros
import Derived.Lib.AppendStr
import Derived.MapKept
import Derived.ChangeMaps4
import Derived.Maps.RangeRun

set_option linter.unusedVariables false
set_option linter.unusedSimpArgs false
set_option maxHeartbeats 4000000
section
namespace Go.Proofs.YtibegnjaphohaaaDoor.Sha
open Go Go.RowKit
open Rely Auto Own
def QaN : List Int:=QkQ.map Int.ofNat
def Qam : List Int:=[0x6a09e667f3bcc908,0xbb67ae8584caa73b,0x3c6ef372fe94f82b,0xa54ff53a5f1d36f1,0x510e527fade682d1,0x9b05688c2b3e6c1f,0x1f83d9abfb41bd6b,0x5be0cd19137e2179]
theorem QkR (i : Nat) (h:i<64):IntKind.u32.wrap (nth QaN i/4294967296)=wv (wget KK i):=by
  have:∀ i:Fin 64,IntKind.u32.wrap (nth QaN i.1/4294967296)=wv (wget KK i.1):=by decide +kernel
  exact this ⟨i,h⟩
theorem Qf4 (n : Int):n.fdiv (2^min (32:Int).toNat IntKind.u64.bits)=n/4294967296:=Int.fdiv_eq_ediv_of_nonneg n (by decide)
theorem Qnj (g : Nat) (s:S8) (b:List Int) (hbl:b.length=64) (hbb:Qat b) (m:Int) (tc:TypeId) (w:World) (hc:w.heap[2]? = some (.cells (ints .u64 QaN) tc)) (hg:w.heap[g]? = some (.cells (cat [ints .u32 ([wv s.a,wv s.b,wv s.c,wv s.d,wv s.e,wv s.f,wv s.g,wv s.h]),ints .u8 (b),#[.int .i64 m]]) 129)) :
  Calls Tryd.prog 74 #[.pointer (some ⟨g,0,none⟩)] w (fun e W=>e=.returned (.tuple #[])∧ExtB g w W∧W.heap[g]? = some (.cells (cat [ints .u32 ((blk s b).l.map wv),ints .u8 b,#[.int .i64 m]]) 129)):=by
 have hl64:((w64 b).map wv).length=64:=by rw [List.length_map,QbZ]
 refine enter 137 [(0,.pointer (some ⟨g,0,none⟩))] Tryd.func74 rfl rfl kj rfl <| sgC fun K3 hK3=>sg 3 kj <| Qab (.agg (ints .u8 (b))) 23 rfl kj (QaK 107 _ g 8 129 _ _ _ hg rfl kj (Qaw [ints .u32 ([wv s.a,wv s.b,wv s.c,wv s.d,wv s.e,wv s.f,wv s.g,wv s.h])] [ints .u8 (b)] [#[.int .i64 m]] 8 kj) kj (isz (n:=64) kj ((Qad _ _).trans hbl))) <| Qar (.agg (ints .u32 ((w64 b).map wv))) 76 #[.agg (ints .u8 (b))] 24 rfl kj kj ((Qlc b hbl hbb) _) fun W1 e1=>?_
 have x1:=ExtB.ext (ExtB.refl g w) e1
 refine Qap (ints .u32 (List.replicate 64 0)) 132 2 rfl kj kj fun g4 W2 l4 e2 r4_2=>Qaj g4 _ (ints .u32 ((w64 b).map wv)) 132 r4_2 rfl kj (Qal 132 _ _ g4 132 _ _ r4_2 rfl kj kj (isz (n:=64) kj ((Qad _ _).trans hl64)) (eqsz (n:=64) ((Qad _ _).trans (List.length_replicate (n:=64))) ((Qad _ _).trans hl64)) (Qau _ _)) fun W3 p3 r4_3=>?_
 have x3:=ExtB.putsN (ExtB.ext x1 e2) p3 (qT x1.size l4)
 refine sgN hK3 <| sgC fun K5 hK5=>sg 3 kj ?_
 have r2_1:=(Qac hg e1)
 have r2_3:=(Puts.row p3 (Qac r2_1 e2) (Qae r2_1 l4))
 refine Qab (.agg (ints .u32 ([wv s.a,wv s.b,wv s.c,wv s.d,wv s.e,wv s.f,wv s.g,wv s.h]))) 28 rfl kj (QaK 114 _ g 0 129 _ _ _ r2_3 rfl kj (Qaw [] [ints .u32 ([wv s.a,wv s.b,wv s.c,wv s.d,wv s.e,wv s.f,wv s.g,wv s.h])] [ints .u8 (b),#[.int .i64 m]] 0 kj) kj (isz (n:=8) kj kj)) <| Qap (ints .u32 ([0,0,0,0,0,0,0,0])) 114 3 rfl kj kj fun g6 W4 l6 e4 r6_4=>Qaj g6 _ (ints .u32 ([wv s.a,wv s.b,wv s.c,wv s.d,wv s.e,wv s.f,wv s.g,wv s.h])) 114 r6_4 rfl kj (Qal 114 _ _ g6 114 _ _ r6_4 rfl kj kj (isz (n:=8) kj kj) (eqsz (n:=8) kj kj) (Qau _ _)) fun W5 p5 r6_5=>sgN hK5 <| wp_seq_k fun K7 hK7=>Qbq 23 [⟨none,[(3,none)]⟩,⟨none,[(29,some 0)]⟩,⟨none,[(3,none)]⟩,⟨none,[(31,some 2)]⟩,⟨none,[(3,none)]⟩,⟨none,[(33,some 4)]⟩,⟨none,[(3,none)]⟩,⟨none,[(35,some 6)]⟩,⟨none,[(3,none)]⟩,⟨none,[(37,some 8)]⟩,⟨none,[(3,none)]⟩,⟨none,[(39,some 10)]⟩,⟨none,[(3,none)]⟩,⟨none,[(41,some 12)]⟩,⟨none,[(3,none)]⟩,⟨none,[(43,some 14)]⟩,⟨none,[(30,some 1)]⟩,⟨none,[(32,some 3)]⟩,⟨none,[(34,some 5)]⟩,⟨none,[(36,some 7)]⟩,⟨none,[(38,some 9)]⟩,⟨none,[(40,some 11)]⟩,⟨none,[(42,some 13)]⟩] kj kj fun F hF=>Qav (.pointer (some ⟨g6,0,none⟩)) kj kj (fun W=>by kernel_rfl) <| Qbj (.int .u32 (wv s.a)) kj kj (fun W hR=>(Qag 113 _ g6 0 114 _ (.int .u32 (wv s.a)) _ (Qac (Qac r6_5 (Qaz _)) hR) rfl kj kj kj)) <| Qav (.pointer (some ⟨g6,1,none⟩)) kj kj (fun W=>by kernel_rfl) <| Qbj (.int .u32 (wv s.b)) kj kj (fun W hR=>(Qag 113 _ g6 1 114 _ (.int .u32 (wv s.b)) _ (Qac (Qac r6_5 (Qaz _)) hR) rfl kj kj kj)) ?_
 refine Qav (.pointer (some ⟨g6,2,none⟩)) kj kj (fun W=>by kernel_rfl) <| Qbj (.int .u32 (wv s.c)) kj kj (fun W hR=>(Qag 113 _ g6 2 114 _ (.int .u32 (wv s.c)) _ (Qac (Qac r6_5 (Qaz _)) hR) rfl kj kj kj)) <| Qav (.pointer (some ⟨g6,3,none⟩)) kj kj (fun W=>by kernel_rfl) <| Qbj (.int .u32 (wv s.d)) kj kj (fun W hR=>(Qag 113 _ g6 3 114 _ (.int .u32 (wv s.d)) _ (Qac (Qac r6_5 (Qaz _)) hR) rfl kj kj kj)) <| Qav (.pointer (some ⟨g6,4,none⟩)) kj kj (fun W=>by kernel_rfl) <| Qbj (.int .u32 (wv s.e)) kj kj (fun W hR=>(Qag 113 _ g6 4 114 _ (.int .u32 (wv s.e)) _ (Qac (Qac r6_5 (Qaz _)) hR) rfl kj kj kj)) <| Qav (.pointer (some ⟨g6,5,none⟩)) kj kj (fun W=>by kernel_rfl) <| Qbj (.int .u32 (wv s.f)) kj kj (fun W hR=>(Qag 113 _ g6 5 114 _ (.int .u32 (wv s.f)) _ (Qac (Qac r6_5 (Qaz _)) hR) rfl kj kj kj)) <| Qav (.pointer (some ⟨g6,6,none⟩)) kj kj (fun W=>by kernel_rfl) <| Qbj (.int .u32 (wv s.g)) kj kj (fun W hR=>(Qag 113 _ g6 6 114 _ (.int .u32 (wv s.g)) _ (Qac (Qac r6_5 (Qaz _)) hR) rfl kj kj kj)) ?_
 refine Qav (.pointer (some ⟨g6,7,none⟩)) kj kj (fun W=>by kernel_rfl) <| Qbj (.int .u32 (wv s.h)) kj kj (fun W hR=>(Qag 113 _ g6 7 114 _ (.int .u32 (wv s.h)) _ (Qac (Qac r6_5 (Qaz _)) hR) rfl kj kj kj)) <| Qav (.int .u32 (wv s.a)) kj kj (fun W=>by kernel_rfl) <| Qav (.int .u32 (wv s.b)) kj kj (fun W=>by kernel_rfl) <| Qav (.int .u32 (wv s.c)) kj kj (fun W=>by kernel_rfl) <| Qav (.int .u32 (wv s.d)) kj kj (fun W=>by kernel_rfl) <| Qav (.int .u32 (wv s.e)) kj kj (fun W=>by kernel_rfl) <| Qav (.int .u32 (wv s.f)) kj kj (fun W=>by kernel_rfl) <| Qav (.int .u32 (wv s.g)) kj kj (fun W=>by kernel_rfl) <| Qb0 (hF _ kj fun W6 e6=>?_)
 simp only [ups,up,Kn.val,List.take_succ_cons,List.take_zero,List.drop_succ_cons,List.drop_zero,List.nil_append,List.cons_append]
 clear hF
 refine sg 1 kj <| sgN hK7 <| wp_seq_k fun K8 hK8=>sgC fun K9 hK9=>Qab (.agg (ints .u32 ((w64 b).map wv))) 45 rfl kj (Qaq 132 _ g4 132 _ _ (Qac (Puts.row p5 (Qac r4_3 e4) (Qae r4_3 l6)) e6) rfl kj kj (isz (n:=64) kj ((Qad _ _).trans hl64))) <| sg 1 kj <| sgN hK9 <| wp_block <| QaC (fun (s1:Nat)=>[(0,.pointer (some ⟨g,0,none⟩)),(45,.agg (ints .u32 ((w64 b).map wv))),(46,.int .i64 ((s1:Nat):Int)),(4,.int .u32 (wv ((rnds KK (w64 b) s s1).a))),(5,.int .u32 (wv ((rnds KK (w64 b) s s1).b))),(6,.int .u32 (wv ((rnds KK (w64 b) s s1).c))),(7,.int .u32 (wv ((rnds KK (w64 b) s s1).d))),(8,.int .u32 (wv ((rnds KK (w64 b) s s1).e))),(9,.int .u32 (wv ((rnds KK (w64 b) s s1).f))),(10,.int .u32 (wv ((rnds KK (w64 b) s s1).g))),(11,.int .u32 (wv ((rnds KK (w64 b) s s1).h)))]) (fun (s1:Nat) W=>(s1≤64)∧(Ext W6 W)∧(ExtB g w W)) (fun (s1:Nat)=>64-s1) 0 ⟨kj,kj,kj,kj,kj,kj,kj,kj,kj,kj,kj,trivial⟩ ⟨(Nat.zero_le _),(Rely.Ext.refl W6),(ExtB.ext (ExtB.putsN (ExtB.ext x3 e4) p5 (qT x3.size l6)) e6)⟩ fun s1 X1 V1 hI1=>?_
 obtain ⟨i,hs1⟩:∃ z,z=s1:=⟨_,rfl⟩
 subst hs1
 obtain ⟨hi,kk1,xx1⟩:=hI1
 replace hi:i≤64:=hi
 replace kk1:Ext W6 V1:=kk1
 replace xx1:ExtB g w V1:=xx1
 have e7:=kk1
 refine sgB kj <| wp_seq_k fun K11 hK11=>Qa3 (t:=decide (((i:Nat):Int)<64)) kj (fun c12=>?_) (fun c12=>?_)
 ·skip
  have hlt47:i<64:=by have:=of_decide_eq_true c12; omega
  refine wp_skip <| hK11 _ _ <| wp_seq_k fun K13 hK13=>wp_block <| sgC fun K14 hK14=>sg 1 kj <| Qab (.int .u32 (wv (wget (w64 b) i))) 49 rfl kj (QaF 132 _ _ .i64 .u32 ((w64 b).map wv) i 64 113 (wv (wget (w64 b) i)) rfl kj kj kj kj kj hl64 (by omega) (QcP _ _)) <| sg 2 kj <| sgN hK14 <| sgC fun K15 hK15=>?_
  refine sg 1 kj <| Qar (.int .u32 (wv (rr ((rnds KK (w64 b) s i).e) 6))) 77 #[.int .u32 (wv ((rnds KK (w64 b) s i).e)),.int .i64 (-6)] 51 rfl kj kj ((rotC ((rnds KK (w64 b) s i).e) 6 (-6) (by decide) (by decide) (by decide)) _) fun W8 e8=>?_
  have x8:=ExtB.ext xx1 e8
  refine sg 1 kj <| Qar (.int .u32 (wv (rr ((rnds KK (w64 b) s i).e) 11))) 77 #[.int .u32 (wv ((rnds KK (w64 b) s i).e)),.int .i64 (-11)] 53 rfl kj kj ((rotC ((rnds KK (w64 b) s i).e) 11 (-11) (by decide) (by decide) (by decide)) _) fun W9 e9=>?_
  have x9:=ExtB.ext x8 e9
  refine Qab (.int .u32 (wv (((rr ((rnds KK (w64 b) s i).e) 6))^^^((rr ((rnds KK (w64 b) s i).e) 11))))) 54 rfl kj (Qai kj (congrArg (Value.int .u32) (w_xor _ _))) <| sg 1 kj <| Qar (.int .u32 (wv (rr ((rnds KK (w64 b) s i).e) 25))) 77 #[.int .u32 (wv ((rnds KK (w64 b) s i).e)),.int .i64 (-25)] 56 rfl kj kj ((rotC ((rnds KK (w64 b) s i).e) 25 (-25) (by decide) (by decide) (by decide)) _) fun W10 e10=>?_
  have x10:=ExtB.ext x9 e10
  refine Qab (.int .u32 (wv (((((rr ((rnds KK (w64 b) s i).e) 6))^^^((rr ((rnds KK (w64 b) s i).e) 11))))^^^((rr ((rnds KK (w64 b) s i).e) 25))))) 57 rfl kj (Qai kj (congrArg (Value.int .u32) (w_xor _ _))) <| sg 1 kj <| sgN hK15 <| sgC fun K16 hK16=>sg 1 kj <| Qar (.int .u32 (wv (rr ((rnds KK (w64 b) s i).a) 2))) 77 #[.int .u32 (wv ((rnds KK (w64 b) s i).a)),.int .i64 (-2)] 59 rfl kj kj ((rotC ((rnds KK (w64 b) s i).a) 2 (-2) (by decide) (by decide) (by decide)) _) fun W11 e11=>?_
  have x11:=ExtB.ext x10 e11
  refine sg 1 kj <| Qar (.int .u32 (wv (rr ((rnds KK (w64 b) s i).a) 13))) 77 #[.int .u32 (wv ((rnds KK (w64 b) s i).a)),.int .i64 (-13)] 61 rfl kj kj ((rotC ((rnds KK (w64 b) s i).a) 13 (-13) (by decide) (by decide) (by decide)) _) fun W12 e12=>?_
  have x12:=ExtB.ext x11 e12
  refine Qab (.int .u32 (wv (((rr ((rnds KK (w64 b) s i).a) 2))^^^((rr ((rnds KK (w64 b) s i).a) 13))))) 62 rfl kj (Qai kj (congrArg (Value.int .u32) (w_xor _ _))) <| sg 1 kj <| Qar (.int .u32 (wv (rr ((rnds KK (w64 b) s i).a) 22))) 77 #[.int .u32 (wv ((rnds KK (w64 b) s i).a)),.int .i64 (-22)] 64 rfl kj kj ((rotC ((rnds KK (w64 b) s i).a) 22 (-22) (by decide) (by decide) (by decide)) _) fun W13 e13=>?_
  have x13:=ExtB.ext x12 e13
  refine Qab (.int .u32 (wv (((((rr ((rnds KK (w64 b) s i).a) 2))^^^((rr ((rnds KK (w64 b) s i).a) 13))))^^^((rr ((rnds KK (w64 b) s i).a) 22))))) 65 rfl kj (Qai kj (congrArg (Value.int .u32) (w_xor _ _))) <| sg 1 kj <| sgN hK16 <| sgC fun K17 hK17=>sg 2 kj <| Qab (.int .u32 (wv ((((rnds KK (w64 b) s i).h))+((((((rr ((rnds KK (w64 b) s i).e) 6))^^^((rr ((rnds KK (w64 b) s i).e) 11))))^^^((rr ((rnds KK (w64 b) s i).e) 25))))))) 68 rfl kj (Qai kj (congrArg (Value.int .u32) (Qb5 _ _))) <| sg 2 kj <| Qab (.int .u32 (wv ((((rnds KK (w64 b) s i).e))&&&(((rnds KK (w64 b) s i).f))))) 71 rfl kj (Qai kj (congrArg (Value.int .u32) (Qfb _ _))) <| sg 1 kj <| Qab (.int .u32 (wv (~~~(((rnds KK (w64 b) s i).e))))) 73 rfl kj (Qai kj (congrArg (Value.int .u32) (Qnh _))) ?_
  refine sg 1 kj <| Qab (.int .u32 (wv (((~~~(((rnds KK (w64 b) s i).e))))&&&(((rnds KK (w64 b) s i).g))))) 75 rfl kj (Qai kj (congrArg (Value.int .u32) (Qfb _ _))) <| Qab (.int .u32 (wv ((((((rnds KK (w64 b) s i).e))&&&(((rnds KK (w64 b) s i).f))))^^^((((~~~(((rnds KK (w64 b) s i).e))))&&&(((rnds KK (w64 b) s i).g))))))) 76 rfl kj (Qai kj (congrArg (Value.int .u32) (w_xor _ _))) <| Qab (.int .u32 (wv ((((((rnds KK (w64 b) s i).h))+((((((rr ((rnds KK (w64 b) s i).e) 6))^^^((rr ((rnds KK (w64 b) s i).e) 11))))^^^((rr ((rnds KK (w64 b) s i).e) 25))))))+(((((((rnds KK (w64 b) s i).e))&&&(((rnds KK (w64 b) s i).f))))^^^((((~~~(((rnds KK (w64 b) s i).e))))&&&(((rnds KK (w64 b) s i).g))))))))) 77 rfl kj (Qai kj (congrArg (Value.int .u32) (Qb5 _ _))) <| sg 1 kj <| Qab (.pointer (some ⟨2,i,none⟩)) 79 rfl kj (Qbl _ _ _ .i64 (i) _ 80 77 rfl kj kj kj kj (by omega)) ?_
  have r1_1:=(Qac hc e1)
  have r1_3:=(Puts.row p3 (Qac r1_1 e2) (Qae r1_1 l4))
  refine Qab (.int .u64 (nth (QaN) i)) 80 rfl kj (Qag 77 _ 2 i tc _ (.int .u64 (nth (QaN) i)) _ (Qac (Qac (Qac (Qac (Qac (Qac (Qac (Qac (Puts.row p5 (Qac r1_3 e4) (Qae r1_3 l6)) e6) e7) e8) e9) e10) e11) e12) e13) rfl kj (Qbg _ _ _ (Nat.lt_of_lt_of_eq (by omega) (show QaN.length=80 from rfl).symm)) kj) <| Qab (.int .u64 (nth QaN i/4294967296)) 81 rfl kj (Qa1 .shr _ _ _ _ .u64 .u64 _ _ _ rfl kj kj (QaQ _ _ _ _ _ _ (by decide) (Qf4 _))) <| Qab (.int .u32 (wv (wget KK i))) 82 rfl kj (Qai (u:=.int .u32 (IntKind.u32.wrap (nth QaN i/4294967296))) kj (congrArg (Value.int .u32) (QkR i hlt47))) <| Qab (.int .u32 (wv ((((((((rnds KK (w64 b) s i).h))+((((((rr ((rnds KK (w64 b) s i).e) 6))^^^((rr ((rnds KK (w64 b) s i).e) 11))))^^^((rr ((rnds KK (w64 b) s i).e) 25))))))+(((((((rnds KK (w64 b) s i).e))&&&(((rnds KK (w64 b) s i).f))))^^^((((~~~(((rnds KK (w64 b) s i).e))))&&&(((rnds KK (w64 b) s i).g))))))))+((wget KK i))))) 83 rfl kj (Qai kj (congrArg (Value.int .u32) (Qb5 _ _))) <| sg 1 kj <| Qab (.int .u32 (wv ((((((((((rnds KK (w64 b) s i).h))+((((((rr ((rnds KK (w64 b) s i).e) 6))^^^((rr ((rnds KK (w64 b) s i).e) 11))))^^^((rr ((rnds KK (w64 b) s i).e) 25))))))+(((((((rnds KK (w64 b) s i).e))&&&(((rnds KK (w64 b) s i).f))))^^^((((~~~(((rnds KK (w64 b) s i).e))))&&&(((rnds KK (w64 b) s i).g))))))))+((wget KK i))))+((wget (w64 b) i))))) 85 rfl kj (Qai kj (congrArg (Value.int .u32) (Qb5 _ _))) <| sg 1 kj <| sgN hK17 <| sgC fun K18 hK18=>sg 3 kj ?_
  refine Qab (.int .u32 (wv ((((rnds KK (w64 b) s i).a))&&&(((rnds KK (w64 b) s i).b))))) 89 rfl kj (Qai kj (congrArg (Value.int .u32) (Qfb _ _))) <| sg 2 kj <| Qab (.int .u32 (wv ((((rnds KK (w64 b) s i).a))&&&(((rnds KK (w64 b) s i).c))))) 92 rfl kj (Qai kj (congrArg (Value.int .u32) (Qfb _ _))) <| Qab (.int .u32 (wv ((((((rnds KK (w64 b) s i).a))&&&(((rnds KK (w64 b) s i).b))))^^^(((((rnds KK (w64 b) s i).a))&&&(((rnds KK (w64 b) s i).c))))))) 93 rfl kj (Qai kj (congrArg (Value.int .u32) (w_xor _ _))) <| sg 2 kj <| Qab (.int .u32 (wv ((((rnds KK (w64 b) s i).b))&&&(((rnds KK (w64 b) s i).c))))) 96 rfl kj (Qai kj (congrArg (Value.int .u32) (Qfb _ _))) <| Qab (.int .u32 (wv ((((((((rnds KK (w64 b) s i).a))&&&(((rnds KK (w64 b) s i).b))))^^^(((((rnds KK (w64 b) s i).a))&&&(((rnds KK (w64 b) s i).c))))))^^^(((((rnds KK (w64 b) s i).b))&&&(((rnds KK (w64 b) s i).c))))))) 97 rfl kj (Qai kj (congrArg (Value.int .u32) (w_xor _ _))) <| Qab (.int .u32 (wv (((((((rr ((rnds KK (w64 b) s i).a) 2))^^^((rr ((rnds KK (w64 b) s i).a) 13))))^^^((rr ((rnds KK (w64 b) s i).a) 22))))+(((((((((rnds KK (w64 b) s i).a))&&&(((rnds KK (w64 b) s i).b))))^^^(((((rnds KK (w64 b) s i).a))&&&(((rnds KK (w64 b) s i).c))))))^^^(((((rnds KK (w64 b) s i).b))&&&(((rnds KK (w64 b) s i).c))))))))) 98 rfl kj (Qai kj (congrArg (Value.int .u32) (Qb5 _ _))) <| sg 1 kj <| sgN hK18 ?_
  refine Qaf <| sg 5 kj <| Qab (.int .u32 (wv ((((rnds KK (w64 b) s i).d))+(((((((((((rnds KK (w64 b) s i).h))+((((((rr ((rnds KK (w64 b) s i).e) 6))^^^((rr ((rnds KK (w64 b) s i).e) 11))))^^^((rr ((rnds KK (w64 b) s i).e) 25))))))+(((((((rnds KK (w64 b) s i).e))&&&(((rnds KK (w64 b) s i).f))))^^^((((~~~(((rnds KK (w64 b) s i).e))))&&&(((rnds KK (w64 b) s i).g))))))))+((wget KK i))))+((wget (w64 b) i))))))) 104 rfl kj (Qai kj (congrArg (Value.int .u32) (Qb5 _ _))) <| sg 5 kj <| Qab (.int .u32 (wv ((((((((((((rnds KK (w64 b) s i).h))+((((((rr ((rnds KK (w64 b) s i).e) 6))^^^((rr ((rnds KK (w64 b) s i).e) 11))))^^^((rr ((rnds KK (w64 b) s i).e) 25))))))+(((((((rnds KK (w64 b) s i).e))&&&(((rnds KK (w64 b) s i).f))))^^^((((~~~(((rnds KK (w64 b) s i).e))))&&&(((rnds KK (w64 b) s i).g))))))))+((wget KK i))))+((wget (w64 b) i))))+((((((((rr ((rnds KK (w64 b) s i).a) 2))^^^((rr ((rnds KK (w64 b) s i).a) 13))))^^^((rr ((rnds KK (w64 b) s i).a) 22))))+(((((((((rnds KK (w64 b) s i).a))&&&(((rnds KK (w64 b) s i).b))))^^^(((((rnds KK (w64 b) s i).a))&&&(((rnds KK (w64 b) s i).c))))))^^^(((((rnds KK (w64 b) s i).b))&&&(((rnds KK (w64 b) s i).c))))))))))) 110 rfl kj (Qai kj (congrArg (Value.int .u32) (Qb5 _ _))) <| sg 8 kj <| Qak <| hK13 _ _ <| Qaf <| Qab (.int .i64 ((i+1:Nat):Int)) 111 rfl kj (Qai (u:=.int .i64 (IntKind.i64.wrap (((i:Nat):Int)+1))) kj (congrArg (Value.int .i64) (i64n _ _ (by omega) (by omega)))) ?_
  refine sg 1 kj <| Qak ?_
  repeat (first | with_reducible refine goX1 ?_ | with_reducible refine goX2 ?_ | with_reducible refine goX3 ?_)
  exact Qa4 (i+1) ⟨kj,kj,kj,kj,kj,kj,kj,kj,kj,kj,kj,trivial⟩ ⟨(by omega),(Rely.Ext.trans (Rely.Ext.trans (Rely.Ext.trans (Rely.Ext.trans (Rely.Ext.trans (Rely.Ext.trans e7 e8) e9) e10) e11) e12) e13),x13⟩ (by omega)
 ·skip
  have heq47:i=64:=by have:=of_decide_eq_false c12; omega
  refine wp_exit <| hK8 _ _ <| sgB kj <| wp_block <| wp_loop_rounds 9 ?_
  show Code.wp _ _ (Exit.then (Code.rounds _ _ _ 8) _) _ _
  refine sgB kj <| sgT kj <| wp_seq_k fun K22 hK22=>wp_block <| sgC fun K23 hK23=>sg 1 kj <| Qab (.int .u32 (wv (rnds KK (w64 b) s i).a)) 124 rfl kj (QaF 114 _ _ .i64 .u32 ([wv (rnds KK (w64 b) s i).a,wv (rnds KK (w64 b) s i).b,wv (rnds KK (w64 b) s i).c,wv (rnds KK (w64 b) s i).d,wv (rnds KK (w64 b) s i).e,wv (rnds KK (w64 b) s i).f,wv (rnds KK (w64 b) s i).g,wv (rnds KK (w64 b) s i).h]) 0 8 113 (wv (rnds KK (w64 b) s i).a) rfl kj kj kj kj kj rfl (by decide) rfl) <| sg 2 kj <| sgN hK23 <| Qbq 11 [⟨none,[(0,none)]⟩,⟨none,[(18,none)]⟩,⟨none,[(125,some 0)]⟩,⟨none,[(127,some 2)]⟩,⟨none,[(128,some 3),(126,some 1)]⟩,⟨none,[(129,some 4)]⟩,⟨none,[(19,none)]⟩,⟨none,[(130,some 5),(131,some 6)]⟩,⟨none,[(125,some 0)]⟩,⟨none,[(133,some 8)]⟩,⟨none,[(134,some 9),(126,some 1)]⟩] kj kj fun F hF=>?_
  refine Qav (.pointer (some ⟨g,0,none⟩)) kj kj (fun W=>by kernel_rfl) <| Qav (.int .i64 0) kj kj (fun W=>by kernel_rfl) <| Qav (.pointer (some ⟨g,0,none⟩)) kj kj (fun W=>by kernel_rfl) <| Qav (.pointer (some ⟨g,0,none⟩)) kj kj (fun W=>by kernel_rfl) <| Qav (.pointer (some ⟨g,0,none⟩)) kj kj (fun W=>by kernel_rfl) ?_
  have r2_7:=(Qac (Qac (Puts.row p5 (Qac r2_3 e4) (Qae r2_3 l6)) e6) e7)
  refine Qbj (.int .u32 (wv s.a)) kj kj (fun W hR=>(Qag 113 _ g 0 129 _ (.int .u32 (wv s.a)) _ (Qac (Qac r2_7 (Qaz _)) hR) rfl kj (Qcr [] [ints .u8 (b),#[.int .i64 m]] ([wv s.a,wv s.b,wv s.c,wv s.d,wv s.e,wv s.f,wv s.g,wv s.h]) 0 0 0 kj rfl (Nat.lt_of_lt_of_eq (show 0<8 by decide) rfl.symm)) kj)) <| Qav (.int .u32 (wv (rnds KK (w64 b) s i).a)) kj kj (fun W=>by kernel_rfl) <| Qav (.int .u32 (wv ((s.a)+((rnds KK (w64 b) s i).a)))) kj kj (fun W=>(Qai kj (congrArg (Value.int .u32) (Qb5 _ _)))) <| Qav (.pointer (some ⟨g,0,none⟩)) kj kj (fun W=>by kernel_rfl) <| Qav (.pointer (some ⟨g,0,none⟩)) kj kj (fun W=>by kernel_rfl) <| Qav (.pointer (some ⟨g,0,none⟩)) kj kj (fun W=>by kernel_rfl) <| Qb0 (hF _ kj fun W8 e8=>?_)
  simp only [ups,up,Kn.val,List.take_succ_cons,List.take_zero,List.drop_succ_cons,List.drop_zero,List.nil_append,List.cons_append]
  clear hF
  have x8:=ExtB.ext xx1 e8
  have r2_8:=(Qac r2_7 e8)
  refine Qaj g _ (cat [ints .u32 ([(wv ((s.a)+((rnds KK (w64 b) s i).a))),wv s.b,wv s.c,wv s.d,wv s.e,wv s.f,wv s.g,wv s.h]),ints .u8 (b),#[.int .i64 m]]) 129 r2_8 rfl kj (Qbh 113 _ _ g 0 129 [] [ints .u8 (b),#[.int .i64 m]] ([wv s.a,wv s.b,wv s.c,wv s.d,wv s.e,wv s.f,wv s.g,wv s.h]) 0 0 _ r2_8 rfl kj kj kj kj rfl (Nat.lt_of_lt_of_eq (show 0<8 by decide) rfl.symm)) fun W9 p9 r2_9=>?_
  have x9:=ExtB.puts x8 p9
  refine Qak <| hK22 _ _ <| sgA kj ?_
  show Code.rounds _ _ _ 8 _ _
  show Code.wp _ _ (Exit.then (Code.rounds _ _ _ 7) _) _ _
  refine sgB kj <| sgT kj <| wp_seq_k fun K26 hK26=>wp_block <| sgC fun K27 hK27=>sg 1 kj <| Qab (.int .u32 (wv (rnds KK (w64 b) s i).b)) 124 rfl kj (QaF 114 _ _ .i64 .u32 ([wv (rnds KK (w64 b) s i).a,wv (rnds KK (w64 b) s i).b,wv (rnds KK (w64 b) s i).c,wv (rnds KK (w64 b) s i).d,wv (rnds KK (w64 b) s i).e,wv (rnds KK (w64 b) s i).f,wv (rnds KK (w64 b) s i).g,wv (rnds KK (w64 b) s i).h]) 1 8 113 (wv (rnds KK (w64 b) s i).b) rfl kj kj kj kj kj rfl (by decide) rfl) <| sg 2 kj <| sgN hK27 <| Qbq 11 [⟨none,[(0,none)]⟩,⟨none,[(18,none)]⟩,⟨none,[(125,some 0)]⟩,⟨none,[(127,some 2)]⟩,⟨none,[(128,some 3),(126,some 1)]⟩,⟨none,[(129,some 4)]⟩,⟨none,[(19,none)]⟩,⟨none,[(130,some 5),(131,some 6)]⟩,⟨none,[(125,some 0)]⟩,⟨none,[(133,some 8)]⟩,⟨none,[(134,some 9),(126,some 1)]⟩] kj kj fun F hF=>?_
  refine Qav (.pointer (some ⟨g,0,none⟩)) kj kj (fun W=>by kernel_rfl) <| Qav (.int .i64 1) kj kj (fun W=>by kernel_rfl) <| Qav (.pointer (some ⟨g,0,none⟩)) kj kj (fun W=>by kernel_rfl) <| Qav (.pointer (some ⟨g,0,none⟩)) kj kj (fun W=>by kernel_rfl) <| Qav (.pointer (some ⟨g,1,none⟩)) kj kj (fun W=>by kernel_rfl) <| Qbj (.int .u32 (wv s.b)) kj kj (fun W hR=>(Qag 113 _ g 1 129 _ (.int .u32 (wv s.b)) _ (Qac (Qac r2_9 (Qaz _)) hR) rfl kj (Qcr [] [ints .u8 (b),#[.int .i64 m]] ([(wv ((s.a)+((rnds KK (w64 b) s i).a))),wv s.b,wv s.c,wv s.d,wv s.e,wv s.f,wv s.g,wv s.h]) 0 1 1 kj rfl (Nat.lt_of_lt_of_eq (show 1<8 by decide) rfl.symm)) kj)) <| Qav (.int .u32 (wv (rnds KK (w64 b) s i).b)) kj kj (fun W=>by kernel_rfl) <| Qav (.int .u32 (wv ((s.b)+((rnds KK (w64 b) s i).b)))) kj kj (fun W=>(Qai kj (congrArg (Value.int .u32) (Qb5 _ _)))) <| Qav (.pointer (some ⟨g,0,none⟩)) kj kj (fun W=>by kernel_rfl) <| Qav (.pointer (some ⟨g,0,none⟩)) kj kj (fun W=>by kernel_rfl) ?_
  refine Qav (.pointer (some ⟨g,1,none⟩)) kj kj (fun W=>by kernel_rfl) <| Qb0 (hF _ kj fun W10 e10=>?_)
  simp only [ups,up,Kn.val,List.take_succ_cons,List.take_zero,List.drop_succ_cons,List.drop_zero,List.nil_append,List.cons_append]
  clear hF
  have x10:=ExtB.ext x9 e10
  have r2_10:=(Qac r2_9 e10)
  refine Qaj g _ (cat [ints .u32 ([(wv ((s.a)+((rnds KK (w64 b) s i).a))),(wv ((s.b)+((rnds KK (w64 b) s i).b))),wv s.c,wv s.d,wv s.e,wv s.f,wv s.g,wv s.h]),ints .u8 (b),#[.int .i64 m]]) 129 r2_10 rfl kj (Qbh 113 _ _ g 1 129 [] [ints .u8 (b),#[.int .i64 m]] ([(wv ((s.a)+((rnds KK (w64 b) s i).a))),wv s.b,wv s.c,wv s.d,wv s.e,wv s.f,wv s.g,wv s.h]) 0 1 _ r2_10 rfl kj kj kj kj rfl (Nat.lt_of_lt_of_eq (show 1<8 by decide) rfl.symm)) fun W11 p11 r2_11=>?_
  have x11:=ExtB.puts x10 p11
  refine Qak <| hK26 _ _ <| sgA kj ?_
  show Code.rounds _ _ _ 7 _ _
  show Code.wp _ _ (Exit.then (Code.rounds _ _ _ 6) _) _ _
  refine sgB kj <| sgT kj <| wp_seq_k fun K30 hK30=>wp_block <| sgC fun K31 hK31=>sg 1 kj <| Qab (.int .u32 (wv (rnds KK (w64 b) s i).c)) 124 rfl kj (QaF 114 _ _ .i64 .u32 ([wv (rnds KK (w64 b) s i).a,wv (rnds KK (w64 b) s i).b,wv (rnds KK (w64 b) s i).c,wv (rnds KK (w64 b) s i).d,wv (rnds KK (w64 b) s i).e,wv (rnds KK (w64 b) s i).f,wv (rnds KK (w64 b) s i).g,wv (rnds KK (w64 b) s i).h]) 2 8 113 (wv (rnds KK (w64 b) s i).c) rfl kj kj kj kj kj rfl (by decide) rfl) <| sg 2 kj <| sgN hK31 <| Qbq 11 [⟨none,[(0,none)]⟩,⟨none,[(18,none)]⟩,⟨none,[(125,some 0)]⟩,⟨none,[(127,some 2)]⟩,⟨none,[(128,some 3),(126,some 1)]⟩,⟨none,[(129,some 4)]⟩,⟨none,[(19,none)]⟩,⟨none,[(130,some 5),(131,some 6)]⟩,⟨none,[(125,some 0)]⟩,⟨none,[(133,some 8)]⟩,⟨none,[(134,some 9),(126,some 1)]⟩] kj kj fun F hF=>?_
  refine Qav (.pointer (some ⟨g,0,none⟩)) kj kj (fun W=>by kernel_rfl) <| Qav (.int .i64 2) kj kj (fun W=>by kernel_rfl) <| Qav (.pointer (some ⟨g,0,none⟩)) kj kj (fun W=>by kernel_rfl) <| Qav (.pointer (some ⟨g,0,none⟩)) kj kj (fun W=>by kernel_rfl) <| Qav (.pointer (some ⟨g,2,none⟩)) kj kj (fun W=>by kernel_rfl) <| Qbj (.int .u32 (wv s.c)) kj kj (fun W hR=>(Qag 113 _ g 2 129 _ (.int .u32 (wv s.c)) _ (Qac (Qac r2_11 (Qaz _)) hR) rfl kj (Qcr [] [ints .u8 (b),#[.int .i64 m]] ([(wv ((s.a)+((rnds KK (w64 b) s i).a))),(wv ((s.b)+((rnds KK (w64 b) s i).b))),wv s.c,wv s.d,wv s.e,wv s.f,wv s.g,wv s.h]) 0 2 2 kj rfl (Nat.lt_of_lt_of_eq (show 2<8 by decide) rfl.symm)) kj)) <| Qav (.int .u32 (wv (rnds KK (w64 b) s i).c)) kj kj (fun W=>by kernel_rfl) <| Qav (.int .u32 (wv ((s.c)+((rnds KK (w64 b) s i).c)))) kj kj (fun W=>(Qai kj (congrArg (Value.int .u32) (Qb5 _ _)))) <| Qav (.pointer (some ⟨g,0,none⟩)) kj kj (fun W=>by kernel_rfl) <| Qav (.pointer (some ⟨g,0,none⟩)) kj kj (fun W=>by kernel_rfl) ?_
  refine Qav (.pointer (some ⟨g,2,none⟩)) kj kj (fun W=>by kernel_rfl) <| Qb0 (hF _ kj fun W12 e12=>?_)
  simp only [ups,up,Kn.val,List.take_succ_cons,List.take_zero,List.drop_succ_cons,List.drop_zero,List.nil_append,List.cons_append]
  clear hF
  have x12:=ExtB.ext x11 e12
  have r2_12:=(Qac r2_11 e12)
  refine Qaj g _ (cat [ints .u32 ([(wv ((s.a)+((rnds KK (w64 b) s i).a))),(wv ((s.b)+((rnds KK (w64 b) s i).b))),(wv ((s.c)+((rnds KK (w64 b) s i).c))),wv s.d,wv s.e,wv s.f,wv s.g,wv s.h]),ints .u8 (b),#[.int .i64 m]]) 129 r2_12 rfl kj (Qbh 113 _ _ g 2 129 [] [ints .u8 (b),#[.int .i64 m]] ([(wv ((s.a)+((rnds KK (w64 b) s i).a))),(wv ((s.b)+((rnds KK (w64 b) s i).b))),wv s.c,wv s.d,wv s.e,wv s.f,wv s.g,wv s.h]) 0 2 _ r2_12 rfl kj kj kj kj rfl (Nat.lt_of_lt_of_eq (show 2<8 by decide) rfl.symm)) fun W13 p13 r2_13=>?_
  have x13:=ExtB.puts x12 p13
  refine Qak <| hK30 _ _ <| sgA kj ?_
  show Code.rounds _ _ _ 6 _ _
  show Code.wp _ _ (Exit.then (Code.rounds _ _ _ 5) _) _ _
  refine sgB kj <| sgT kj <| wp_seq_k fun K34 hK34=>wp_block <| sgC fun K35 hK35=>sg 1 kj <| Qab (.int .u32 (wv (rnds KK (w64 b) s i).d)) 124 rfl kj (QaF 114 _ _ .i64 .u32 ([wv (rnds KK (w64 b) s i).a,wv (rnds KK (w64 b) s i).b,wv (rnds KK (w64 b) s i).c,wv (rnds KK (w64 b) s i).d,wv (rnds KK (w64 b) s i).e,wv (rnds KK (w64 b) s i).f,wv (rnds KK (w64 b) s i).g,wv (rnds KK (w64 b) s i).h]) 3 8 113 (wv (rnds KK (w64 b) s i).d) rfl kj kj kj kj kj rfl (by decide) rfl) <| sg 2 kj <| sgN hK35 <| Qbq 11 [⟨none,[(0,none)]⟩,⟨none,[(18,none)]⟩,⟨none,[(125,some 0)]⟩,⟨none,[(127,some 2)]⟩,⟨none,[(128,some 3),(126,some 1)]⟩,⟨none,[(129,some 4)]⟩,⟨none,[(19,none)]⟩,⟨none,[(130,some 5),(131,some 6)]⟩,⟨none,[(125,some 0)]⟩,⟨none,[(133,some 8)]⟩,⟨none,[(134,some 9),(126,some 1)]⟩] kj kj fun F hF=>?_
  refine Qav (.pointer (some ⟨g,0,none⟩)) kj kj (fun W=>by kernel_rfl) <| Qav (.int .i64 3) kj kj (fun W=>by kernel_rfl) <| Qav (.pointer (some ⟨g,0,none⟩)) kj kj (fun W=>by kernel_rfl) <| Qav (.pointer (some ⟨g,0,none⟩)) kj kj (fun W=>by kernel_rfl) <| Qav (.pointer (some ⟨g,3,none⟩)) kj kj (fun W=>by kernel_rfl) <| Qbj (.int .u32 (wv s.d)) kj kj (fun W hR=>(Qag 113 _ g 3 129 _ (.int .u32 (wv s.d)) _ (Qac (Qac r2_13 (Qaz _)) hR) rfl kj (Qcr [] [ints .u8 (b),#[.int .i64 m]] ([(wv ((s.a)+((rnds KK (w64 b) s i).a))),(wv ((s.b)+((rnds KK (w64 b) s i).b))),(wv ((s.c)+((rnds KK (w64 b) s i).c))),wv s.d,wv s.e,wv s.f,wv s.g,wv s.h]) 0 3 3 kj rfl (Nat.lt_of_lt_of_eq (show 3<8 by decide) rfl.symm)) kj)) <| Qav (.int .u32 (wv (rnds KK (w64 b) s i).d)) kj kj (fun W=>by kernel_rfl) <| Qav (.int .u32 (wv ((s.d)+((rnds KK (w64 b) s i).d)))) kj kj (fun W=>(Qai kj (congrArg (Value.int .u32) (Qb5 _ _)))) <| Qav (.pointer (some ⟨g,0,none⟩)) kj kj (fun W=>by kernel_rfl) <| Qav (.pointer (some ⟨g,0,none⟩)) kj kj (fun W=>by kernel_rfl) ?_
  refine Qav (.pointer (some ⟨g,3,none⟩)) kj kj (fun W=>by kernel_rfl) <| Qb0 (hF _ kj fun W14 e14=>?_)
  simp only [ups,up,Kn.val,List.take_succ_cons,List.take_zero,List.drop_succ_cons,List.drop_zero,List.nil_append,List.cons_append]
  clear hF
  have r2_14:=(Qac r2_13 e14)
  refine Qaj g _ (cat [ints .u32 ([(wv ((s.a)+((rnds KK (w64 b) s i).a))),(wv ((s.b)+((rnds KK (w64 b) s i).b))),(wv ((s.c)+((rnds KK (w64 b) s i).c))),(wv ((s.d)+((rnds KK (w64 b) s i).d))),wv s.e,wv s.f,wv s.g,wv s.h]),ints .u8 (b),#[.int .i64 m]]) 129 r2_14 rfl kj (Qbh 113 _ _ g 3 129 [] [ints .u8 (b),#[.int .i64 m]] ([(wv ((s.a)+((rnds KK (w64 b) s i).a))),(wv ((s.b)+((rnds KK (w64 b) s i).b))),(wv ((s.c)+((rnds KK (w64 b) s i).c))),wv s.d,wv s.e,wv s.f,wv s.g,wv s.h]) 0 3 _ r2_14 rfl kj kj kj kj rfl (Nat.lt_of_lt_of_eq (show 3<8 by decide) rfl.symm)) fun W15 p15 r2_15=>Qak <| hK34 _ _ <| sgA kj ?_
  show Code.rounds _ _ _ 5 _ _
  show Code.wp _ _ (Exit.then (Code.rounds _ _ _ 4) _) _ _
  refine sgB kj <| sgT kj <| wp_seq_k fun K38 hK38=>wp_block <| sgC fun K39 hK39=>sg 1 kj <| Qab (.int .u32 (wv (rnds KK (w64 b) s i).e)) 124 rfl kj (QaF 114 _ _ .i64 .u32 ([wv (rnds KK (w64 b) s i).a,wv (rnds KK (w64 b) s i).b,wv (rnds KK (w64 b) s i).c,wv (rnds KK (w64 b) s i).d,wv (rnds KK (w64 b) s i).e,wv (rnds KK (w64 b) s i).f,wv (rnds KK (w64 b) s i).g,wv (rnds KK (w64 b) s i).h]) 4 8 113 (wv (rnds KK (w64 b) s i).e) rfl kj kj kj kj kj rfl (by decide) rfl) <| sg 2 kj <| sgN hK39 <| Qbq 11 [⟨none,[(0,none)]⟩,⟨none,[(18,none)]⟩,⟨none,[(125,some 0)]⟩,⟨none,[(127,some 2)]⟩,⟨none,[(128,some 3),(126,some 1)]⟩,⟨none,[(129,some 4)]⟩,⟨none,[(19,none)]⟩,⟨none,[(130,some 5),(131,some 6)]⟩,⟨none,[(125,some 0)]⟩,⟨none,[(133,some 8)]⟩,⟨none,[(134,some 9),(126,some 1)]⟩] kj kj fun F hF=>?_
  refine Qav (.pointer (some ⟨g,0,none⟩)) kj kj (fun W=>by kernel_rfl) <| Qav (.int .i64 4) kj kj (fun W=>by kernel_rfl) <| Qav (.pointer (some ⟨g,0,none⟩)) kj kj (fun W=>by kernel_rfl) <| Qav (.pointer (some ⟨g,0,none⟩)) kj kj (fun W=>by kernel_rfl) <| Qav (.pointer (some ⟨g,4,none⟩)) kj kj (fun W=>by kernel_rfl) <| Qbj (.int .u32 (wv s.e)) kj kj (fun W hR=>(Qag 113 _ g 4 129 _ (.int .u32 (wv s.e)) _ (Qac (Qac r2_15 (Qaz _)) hR) rfl kj (Qcr [] [ints .u8 (b),#[.int .i64 m]] ([(wv ((s.a)+((rnds KK (w64 b) s i).a))),(wv ((s.b)+((rnds KK (w64 b) s i).b))),(wv ((s.c)+((rnds KK (w64 b) s i).c))),(wv ((s.d)+((rnds KK (w64 b) s i).d))),wv s.e,wv s.f,wv s.g,wv s.h]) 0 4 4 kj rfl (Nat.lt_of_lt_of_eq (show 4<8 by decide) rfl.symm)) kj)) <| Qav (.int .u32 (wv (rnds KK (w64 b) s i).e)) kj kj (fun W=>by kernel_rfl) <| Qav (.int .u32 (wv ((s.e)+((rnds KK (w64 b) s i).e)))) kj kj (fun W=>(Qai kj (congrArg (Value.int .u32) (Qb5 _ _)))) <| Qav (.pointer (some ⟨g,0,none⟩)) kj kj (fun W=>by kernel_rfl) <| Qav (.pointer (some ⟨g,0,none⟩)) kj kj (fun W=>by kernel_rfl) ?_
  refine Qav (.pointer (some ⟨g,4,none⟩)) kj kj (fun W=>by kernel_rfl) <| Qb0 (hF _ kj fun W16 e16=>?_)
  simp only [ups,up,Kn.val,List.take_succ_cons,List.take_zero,List.drop_succ_cons,List.drop_zero,List.nil_append,List.cons_append]
  clear hF
  have r2_16:=(Qac r2_15 e16)
  refine Qaj g _ (cat [ints .u32 ([(wv ((s.a)+((rnds KK (w64 b) s i).a))),(wv ((s.b)+((rnds KK (w64 b) s i).b))),(wv ((s.c)+((rnds KK (w64 b) s i).c))),(wv ((s.d)+((rnds KK (w64 b) s i).d))),(wv ((s.e)+((rnds KK (w64 b) s i).e))),wv s.f,wv s.g,wv s.h]),ints .u8 (b),#[.int .i64 m]]) 129 r2_16 rfl kj (Qbh 113 _ _ g 4 129 [] [ints .u8 (b),#[.int .i64 m]] ([(wv ((s.a)+((rnds KK (w64 b) s i).a))),(wv ((s.b)+((rnds KK (w64 b) s i).b))),(wv ((s.c)+((rnds KK (w64 b) s i).c))),(wv ((s.d)+((rnds KK (w64 b) s i).d))),wv s.e,wv s.f,wv s.g,wv s.h]) 0 4 _ r2_16 rfl kj kj kj kj rfl (Nat.lt_of_lt_of_eq (show 4<8 by decide) rfl.symm)) fun W17 p17 r2_17=>Qak <| hK38 _ _ <| sgA kj ?_
  show Code.rounds _ _ _ 4 _ _
  show Code.wp _ _ (Exit.then (Code.rounds _ _ _ 3) _) _ _
  refine sgB kj <| sgT kj <| wp_seq_k fun K42 hK42=>wp_block <| sgC fun K43 hK43=>sg 1 kj <| Qab (.int .u32 (wv (rnds KK (w64 b) s i).f)) 124 rfl kj (QaF 114 _ _ .i64 .u32 ([wv (rnds KK (w64 b) s i).a,wv (rnds KK (w64 b) s i).b,wv (rnds KK (w64 b) s i).c,wv (rnds KK (w64 b) s i).d,wv (rnds KK (w64 b) s i).e,wv (rnds KK (w64 b) s i).f,wv (rnds KK (w64 b) s i).g,wv (rnds KK (w64 b) s i).h]) 5 8 113 (wv (rnds KK (w64 b) s i).f) rfl kj kj kj kj kj rfl (by decide) rfl) <| sg 2 kj <| sgN hK43 <| Qbq 11 [⟨none,[(0,none)]⟩,⟨none,[(18,none)]⟩,⟨none,[(125,some 0)]⟩,⟨none,[(127,some 2)]⟩,⟨none,[(128,some 3),(126,some 1)]⟩,⟨none,[(129,some 4)]⟩,⟨none,[(19,none)]⟩,⟨none,[(130,some 5),(131,some 6)]⟩,⟨none,[(125,some 0)]⟩,⟨none,[(133,some 8)]⟩,⟨none,[(134,some 9),(126,some 1)]⟩] kj kj fun F hF=>?_
  refine Qav (.pointer (some ⟨g,0,none⟩)) kj kj (fun W=>by kernel_rfl) <| Qav (.int .i64 5) kj kj (fun W=>by kernel_rfl) <| Qav (.pointer (some ⟨g,0,none⟩)) kj kj (fun W=>by kernel_rfl) <| Qav (.pointer (some ⟨g,0,none⟩)) kj kj (fun W=>by kernel_rfl) <| Qav (.pointer (some ⟨g,5,none⟩)) kj kj (fun W=>by kernel_rfl) <| Qbj (.int .u32 (wv s.f)) kj kj (fun W hR=>(Qag 113 _ g 5 129 _ (.int .u32 (wv s.f)) _ (Qac (Qac r2_17 (Qaz _)) hR) rfl kj (Qcr [] [ints .u8 (b),#[.int .i64 m]] ([(wv ((s.a)+((rnds KK (w64 b) s i).a))),(wv ((s.b)+((rnds KK (w64 b) s i).b))),(wv ((s.c)+((rnds KK (w64 b) s i).c))),(wv ((s.d)+((rnds KK (w64 b) s i).d))),(wv ((s.e)+((rnds KK (w64 b) s i).e))),wv s.f,wv s.g,wv s.h]) 0 5 5 kj rfl (Nat.lt_of_lt_of_eq (show 5<8 by decide) rfl.symm)) kj)) <| Qav (.int .u32 (wv (rnds KK (w64 b) s i).f)) kj kj (fun W=>by kernel_rfl) <| Qav (.int .u32 (wv ((s.f)+((rnds KK (w64 b) s i).f)))) kj kj (fun W=>(Qai kj (congrArg (Value.int .u32) (Qb5 _ _)))) <| Qav (.pointer (some ⟨g,0,none⟩)) kj kj (fun W=>by kernel_rfl) <| Qav (.pointer (some ⟨g,0,none⟩)) kj kj (fun W=>by kernel_rfl) ?_
  refine Qav (.pointer (some ⟨g,5,none⟩)) kj kj (fun W=>by kernel_rfl) <| Qb0 (hF _ kj fun W18 e18=>?_)
  simp only [ups,up,Kn.val,List.take_succ_cons,List.take_zero,List.drop_succ_cons,List.drop_zero,List.nil_append,List.cons_append]
  clear hF
  have r2_18:=(Qac r2_17 e18)
  refine Qaj g _ (cat [ints .u32 ([(wv ((s.a)+((rnds KK (w64 b) s i).a))),(wv ((s.b)+((rnds KK (w64 b) s i).b))),(wv ((s.c)+((rnds KK (w64 b) s i).c))),(wv ((s.d)+((rnds KK (w64 b) s i).d))),(wv ((s.e)+((rnds KK (w64 b) s i).e))),(wv ((s.f)+((rnds KK (w64 b) s i).f))),wv s.g,wv s.h]),ints .u8 (b),#[.int .i64 m]]) 129 r2_18 rfl kj (Qbh 113 _ _ g 5 129 [] [ints .u8 (b),#[.int .i64 m]] ([(wv ((s.a)+((rnds KK (w64 b) s i).a))),(wv ((s.b)+((rnds KK (w64 b) s i).b))),(wv ((s.c)+((rnds KK (w64 b) s i).c))),(wv ((s.d)+((rnds KK (w64 b) s i).d))),(wv ((s.e)+((rnds KK (w64 b) s i).e))),wv s.f,wv s.g,wv s.h]) 0 5 _ r2_18 rfl kj kj kj kj rfl (Nat.lt_of_lt_of_eq (show 5<8 by decide) rfl.symm)) fun W19 p19 r2_19=>Qak <| hK42 _ _ <| sgA kj ?_
  show Code.rounds _ _ _ 3 _ _
  show Code.wp _ _ (Exit.then (Code.rounds _ _ _ 2) _) _ _
  refine sgB kj <| sgT kj <| wp_seq_k fun K46 hK46=>wp_block <| sgC fun K47 hK47=>sg 1 kj <| Qab (.int .u32 (wv (rnds KK (w64 b) s i).g)) 124 rfl kj (QaF 114 _ _ .i64 .u32 ([wv (rnds KK (w64 b) s i).a,wv (rnds KK (w64 b) s i).b,wv (rnds KK (w64 b) s i).c,wv (rnds KK (w64 b) s i).d,wv (rnds KK (w64 b) s i).e,wv (rnds KK (w64 b) s i).f,wv (rnds KK (w64 b) s i).g,wv (rnds KK (w64 b) s i).h]) 6 8 113 (wv (rnds KK (w64 b) s i).g) rfl kj kj kj kj kj rfl (by decide) rfl) <| sg 2 kj <| sgN hK47 <| Qbq 11 [⟨none,[(0,none)]⟩,⟨none,[(18,none)]⟩,⟨none,[(125,some 0)]⟩,⟨none,[(127,some 2)]⟩,⟨none,[(128,some 3),(126,some 1)]⟩,⟨none,[(129,some 4)]⟩,⟨none,[(19,none)]⟩,⟨none,[(130,some 5),(131,some 6)]⟩,⟨none,[(125,some 0)]⟩,⟨none,[(133,some 8)]⟩,⟨none,[(134,some 9),(126,some 1)]⟩] kj kj fun F hF=>?_
  refine Qav (.pointer (some ⟨g,0,none⟩)) kj kj (fun W=>by kernel_rfl) <| Qav (.int .i64 6) kj kj (fun W=>by kernel_rfl) <| Qav (.pointer (some ⟨g,0,none⟩)) kj kj (fun W=>by kernel_rfl) <| Qav (.pointer (some ⟨g,0,none⟩)) kj kj (fun W=>by kernel_rfl) <| Qav (.pointer (some ⟨g,6,none⟩)) kj kj (fun W=>by kernel_rfl) <| Qbj (.int .u32 (wv s.g)) kj kj (fun W hR=>(Qag 113 _ g 6 129 _ (.int .u32 (wv s.g)) _ (Qac (Qac r2_19 (Qaz _)) hR) rfl kj (Qcr [] [ints .u8 (b),#[.int .i64 m]] ([(wv ((s.a)+((rnds KK (w64 b) s i).a))),(wv ((s.b)+((rnds KK (w64 b) s i).b))),(wv ((s.c)+((rnds KK (w64 b) s i).c))),(wv ((s.d)+((rnds KK (w64 b) s i).d))),(wv ((s.e)+((rnds KK (w64 b) s i).e))),(wv ((s.f)+((rnds KK (w64 b) s i).f))),wv s.g,wv s.h]) 0 6 6 kj rfl (Nat.lt_of_lt_of_eq (show 6<8 by decide) rfl.symm)) kj)) <| Qav (.int .u32 (wv (rnds KK (w64 b) s i).g)) kj kj (fun W=>by kernel_rfl) <| Qav (.int .u32 (wv ((s.g)+((rnds KK (w64 b) s i).g)))) kj kj (fun W=>(Qai kj (congrArg (Value.int .u32) (Qb5 _ _)))) <| Qav (.pointer (some ⟨g,0,none⟩)) kj kj (fun W=>by kernel_rfl) <| Qav (.pointer (some ⟨g,0,none⟩)) kj kj (fun W=>by kernel_rfl) ?_
  refine Qav (.pointer (some ⟨g,6,none⟩)) kj kj (fun W=>by kernel_rfl) <| Qb0 (hF _ kj fun W20 e20=>?_)
  simp only [ups,up,Kn.val,List.take_succ_cons,List.take_zero,List.drop_succ_cons,List.drop_zero,List.nil_append,List.cons_append]
  clear hF
  have r2_20:=(Qac r2_19 e20)
  refine Qaj g _ (cat [ints .u32 ([(wv ((s.a)+((rnds KK (w64 b) s i).a))),(wv ((s.b)+((rnds KK (w64 b) s i).b))),(wv ((s.c)+((rnds KK (w64 b) s i).c))),(wv ((s.d)+((rnds KK (w64 b) s i).d))),(wv ((s.e)+((rnds KK (w64 b) s i).e))),(wv ((s.f)+((rnds KK (w64 b) s i).f))),(wv ((s.g)+((rnds KK (w64 b) s i).g))),wv s.h]),ints .u8 (b),#[.int .i64 m]]) 129 r2_20 rfl kj (Qbh 113 _ _ g 6 129 [] [ints .u8 (b),#[.int .i64 m]] ([(wv ((s.a)+((rnds KK (w64 b) s i).a))),(wv ((s.b)+((rnds KK (w64 b) s i).b))),(wv ((s.c)+((rnds KK (w64 b) s i).c))),(wv ((s.d)+((rnds KK (w64 b) s i).d))),(wv ((s.e)+((rnds KK (w64 b) s i).e))),(wv ((s.f)+((rnds KK (w64 b) s i).f))),wv s.g,wv s.h]) 0 6 _ r2_20 rfl kj kj kj kj rfl (Nat.lt_of_lt_of_eq (show 6<8 by decide) rfl.symm)) fun W21 p21 r2_21=>Qak <| hK46 _ _ <| sgA kj ?_
  show Code.rounds _ _ _ 2 _ _
  show Code.wp _ _ (Exit.then (Code.rounds _ _ _ 1) _) _ _
  refine sgB kj <| sgT kj <| wp_seq_k fun K50 hK50=>wp_block <| sgC fun K51 hK51=>sg 1 kj <| Qab (.int .u32 (wv (rnds KK (w64 b) s i).h)) 124 rfl kj (QaF 114 _ _ .i64 .u32 ([wv (rnds KK (w64 b) s i).a,wv (rnds KK (w64 b) s i).b,wv (rnds KK (w64 b) s i).c,wv (rnds KK (w64 b) s i).d,wv (rnds KK (w64 b) s i).e,wv (rnds KK (w64 b) s i).f,wv (rnds KK (w64 b) s i).g,wv (rnds KK (w64 b) s i).h]) 7 8 113 (wv (rnds KK (w64 b) s i).h) rfl kj kj kj kj kj rfl (by decide) rfl) <| sg 2 kj <| sgN hK51 <| Qbq 11 [⟨none,[(0,none)]⟩,⟨none,[(18,none)]⟩,⟨none,[(125,some 0)]⟩,⟨none,[(127,some 2)]⟩,⟨none,[(128,some 3),(126,some 1)]⟩,⟨none,[(129,some 4)]⟩,⟨none,[(19,none)]⟩,⟨none,[(130,some 5),(131,some 6)]⟩,⟨none,[(125,some 0)]⟩,⟨none,[(133,some 8)]⟩,⟨none,[(134,some 9),(126,some 1)]⟩] kj kj fun F hF=>?_
  refine Qav (.pointer (some ⟨g,0,none⟩)) kj kj (fun W=>by kernel_rfl) <| Qav (.int .i64 7) kj kj (fun W=>by kernel_rfl) <| Qav (.pointer (some ⟨g,0,none⟩)) kj kj (fun W=>by kernel_rfl) <| Qav (.pointer (some ⟨g,0,none⟩)) kj kj (fun W=>by kernel_rfl) <| Qav (.pointer (some ⟨g,7,none⟩)) kj kj (fun W=>by kernel_rfl) <| Qbj (.int .u32 (wv s.h)) kj kj (fun W hR=>(Qag 113 _ g 7 129 _ (.int .u32 (wv s.h)) _ (Qac (Qac r2_21 (Qaz _)) hR) rfl kj (Qcr [] [ints .u8 (b),#[.int .i64 m]] ([(wv ((s.a)+((rnds KK (w64 b) s i).a))),(wv ((s.b)+((rnds KK (w64 b) s i).b))),(wv ((s.c)+((rnds KK (w64 b) s i).c))),(wv ((s.d)+((rnds KK (w64 b) s i).d))),(wv ((s.e)+((rnds KK (w64 b) s i).e))),(wv ((s.f)+((rnds KK (w64 b) s i).f))),(wv ((s.g)+((rnds KK (w64 b) s i).g))),wv s.h]) 0 7 7 kj rfl (Nat.lt_of_lt_of_eq (show 7<8 by decide) rfl.symm)) kj)) <| Qav (.int .u32 (wv (rnds KK (w64 b) s i).h)) kj kj (fun W=>by kernel_rfl) <| Qav (.int .u32 (wv ((s.h)+((rnds KK (w64 b) s i).h)))) kj kj (fun W=>(Qai kj (congrArg (Value.int .u32) (Qb5 _ _)))) <| Qav (.pointer (some ⟨g,0,none⟩)) kj kj (fun W=>by kernel_rfl) <| Qav (.pointer (some ⟨g,0,none⟩)) kj kj (fun W=>by kernel_rfl) ?_
  refine Qav (.pointer (some ⟨g,7,none⟩)) kj kj (fun W=>by kernel_rfl) <| Qb0 (hF _ kj fun W22 e22=>?_)
  simp only [ups,up,Kn.val,List.take_succ_cons,List.take_zero,List.drop_succ_cons,List.drop_zero,List.nil_append,List.cons_append]
  clear hF
  have r2_22:=(Qac r2_21 e22)
  refine Qaj g _ (cat [ints .u32 ([(wv ((s.a)+((rnds KK (w64 b) s i).a))),(wv ((s.b)+((rnds KK (w64 b) s i).b))),(wv ((s.c)+((rnds KK (w64 b) s i).c))),(wv ((s.d)+((rnds KK (w64 b) s i).d))),(wv ((s.e)+((rnds KK (w64 b) s i).e))),(wv ((s.f)+((rnds KK (w64 b) s i).f))),(wv ((s.g)+((rnds KK (w64 b) s i).g))),(wv ((s.h)+((rnds KK (w64 b) s i).h)))]),ints .u8 (b),#[.int .i64 m]]) 129 r2_22 rfl kj (Qbh 113 _ _ g 7 129 [] [ints .u8 (b),#[.int .i64 m]] ([(wv ((s.a)+((rnds KK (w64 b) s i).a))),(wv ((s.b)+((rnds KK (w64 b) s i).b))),(wv ((s.c)+((rnds KK (w64 b) s i).c))),(wv ((s.d)+((rnds KK (w64 b) s i).d))),(wv ((s.e)+((rnds KK (w64 b) s i).e))),(wv ((s.f)+((rnds KK (w64 b) s i).f))),(wv ((s.g)+((rnds KK (w64 b) s i).g))),wv s.h]) 0 7 _ r2_22 rfl kj kj kj kj rfl (Nat.lt_of_lt_of_eq (show 7<8 by decide) rfl.symm)) fun W23 p23 r2_23=>Qak <| hK50 _ _ <| sgA kj ?_
  show Code.rounds _ _ _ 1 _ _
  show Code.wp _ _ (Exit.then (Code.rounds _ _ _ 0) _) _ _
  refine sgB kj <| wp_seq_k fun K53 hK53=>cond_false kj <| wp_exit ?_
  repeat (first | with_reducible refine goX1 ?_ | with_reducible refine goX2 ?_ | with_reducible refine goX3 ?_)
  exact (show bodyPost _ _ _ .normal _ _ from end0 rfl ⟨rfl,(ExtB.puts (ExtB.ext (ExtB.puts (ExtB.ext (ExtB.puts (ExtB.ext (ExtB.puts (ExtB.ext (ExtB.puts (ExtB.ext x13 e14) p15) e16) p17) e18) p19) e20) p21) e22) p23),by rw [heq47] at *; exact r2_23⟩)
end Go.Proofs.YtibegnjaphohaaaDoor.Sha
end
section
namespace Go.Proofs.YtibegnjaphohaaaDoor.Sha
open Go Go.RowKit
open Rely Auto Own
theorem Qd9 (s : S8) (t u:List Int):∀ n:Nat,64*n≤t.length→absorb s (t++u) n=absorb s t n
  | 0,_=>rfl
  | n+1,h=>by
    show blk (absorb s (t++u) n) _=blk (absorb s t n) _
    rw [Qd9 s t u n (by omega)]
    congr 1
    rw [List.drop_append_of_le_length (by omega),List.take_append_of_le_length (by rw [List.length_drop]; omega)]
def HasD (g : Nat) (t:List Int) (W:World):Prop:=∃ b:List Int,b.length=64∧Qat b∧b.take (t.length%64)=t.drop (64*(t.length/64))∧t.length≤1000000000 ∧
  W.heap[g]? = some (.cells (cat [ints .u32 ((absorb S0 t (t.length/64)).l.map wv),ints .u8 b,#[.int .i64 ((t.length:Nat):Int)]]) 129)
theorem HasD.row {g : Nat} {t:List Int} {W W':World} (h:HasD g t W) (e:W'.heap[g]? = W.heap[g]?):HasD g t W':=by
  obtain ⟨b,h1,h2,h3,h4,h5⟩:=h
  exact ⟨b,h1,h2,h3,h4,e.trans h5⟩
theorem HasD.lt {g : Nat} {t:List Int} {W:World} (h:HasD g t W):g<W.heap.size:=by
  obtain ⟨b,h1,h2,h3,h4,h5⟩:=h
  exact Qay h5
theorem HasD.ext {g : Nat} {t:List Int} {W W':World} (h:HasD g t W) (e:Ext W W'):HasD g t W':=h.row (e.block g h.lt)
theorem HasD.stable (g : Nat) (t:List Int):QbA Ext (fun _=>HasD g t):=fun _ _ _ hR h=>h.ext hR
def into (b z:List Int) (q n:Nat):List Int:=b.take q++z.take n++b.drop (q+n)
theorem Qh4 {b z:List Int} {q n:Nat} (hb:b.length=64) (hz:n≤z.length) (hq:q+n≤64):(into b z q n).length=64:=by
  simp only [into,List.length_append,List.length_take,List.length_drop]; omega
theorem Qec {b z:List Int} {q n:Nat} (hb:Qat b) (hz:Qat z):Qat (into b z q n):=fun x hx=>by
  rcases List.mem_append.1 hx with hx | hx
  · rcases List.mem_append.1 hx with hx | hx
    · exact hb x (List.mem_of_mem_take hx)
    · exact hz x (List.mem_of_mem_take hx)
  · exact hb x (List.mem_of_mem_drop hx)
theorem Qgy {b z t:List Int} {n:Nat} (hb:b.length=64) (hz:n≤z.length) (hp:b.take (t.length%64)=t.drop (64*(t.length/64))):(into b z (t.length%64) n).take (t.length%64+n)=(t++z.take n).drop (64*(t.length/64)):=by
  have e1:(b.take (t.length%64)++z.take n).length=t.length%64+n:=by
    rw [List.length_append,List.length_take,List.length_take]; omega
  unfold into
  rw [←e1,List.take_left,hp,List.drop_append_of_le_length (by omega)]
theorem Qjl {b z t:List Int} {n:Nat} (hb:b.length=64) (hz:n≤z.length) (hp:b.take (t.length%64)=t.drop (64*(t.length/64))) (hn:t.length%64+n<64) :
    (into b z (t.length%64) n).take ((t++z.take n).length%64)=(t++z.take n).drop (64*((t++z.take n).length/64)):=by
  have hl:(t++z.take n).length=t.length+n:=by rw [List.length_append,List.length_take]; omega
  rw [hl,show (t.length+n)%64=t.length%64+n by omega,show (t.length+n)/64=t.length/64 by omega]
  exact Qgy hb hz hp
theorem Qjk {b z t:List Int} {n:Nat} (hb:b.length=64) (hz:n≤z.length) (hp:b.take (t.length%64)=t.drop (64*(t.length/64))) (hn:t.length%64+n=64) :
    blk (absorb S0 t (t.length/64)) (into b z (t.length%64) n)=absorb S0 (t++z.take n) ((t++z.take n).length/64):=by
  have hl:(t++z.take n).length=t.length+n:=by rw [List.length_append,List.length_take]; omega
  rw [hl,show (t.length+n)/64=t.length/64+1 by omega]
  show _=blk (absorb S0 (t++z.take n) (t.length/64)) _
  rw [Qd9 S0 t _ _ (by omega)]
  have h1:=Qgy hb hz hp
  rw [hn,List.take_of_length_le (by rw [Qh4 hb hz (by omega)]; omega)] at h1
  rw [h1,List.take_of_length_le (l:=(t++z.take n).drop (64*(t.length/64))) (by rw [List.length_drop,hl]; omega)]
theorem QhP {z t:List Int} {n:Nat} (hz:n≤z.length) (hn:t.length%64+n<64):absorb S0 (t++z.take n) ((t++z.take n).length/64)=absorb S0 t (t.length/64):=by
  have hl:(t++z.take n).length=t.length+n:=by rw [List.length_append,List.length_take]; omega
  rw [hl,show (t.length+n)/64=t.length/64 by omega,Qd9 S0 t _ _ (by omega)]
section
variable {ds : List Deferred} {ops : Array Oper} {Q : Exit → Act → World → Prop} {rest : List Oper} {o : Oper} {N : Nat} {L : Env} {W : World}
theorem cat3 (a b c:Array Value):(cat [a,b,c]).toList=a.toList++(b.toList++c.toList):=by
  show (a++(b++c)).toList=_
  simp
theorem Qku {st b z:List Int} {u:Value} {q n:Nat} (hst:st.length=8) (hb:b.length=64) (hz:n≤z.length) (hq:q+n≤64) :
    ((cat [ints .u32 st,ints .u8 b,#[u]]).toList.take (8+q)++(z.take n).map (Value.int .u8)++(cat [ints .u32 st,ints .u8 b,#[u]]).toList.drop (8+q+n)).toArray=cat [ints .u32 st,ints .u8 (into b z q n),#[u]]:=by
  apply Array.ext'
  rw [cat3,cat3]
  have e1:(ints .u32 st).toList=st.map (Value.int .u32):=rfl
  have e2:∀ b,(ints .u8 b).toList=b.map (Value.int .u8):=fun _=>rfl
  rw [e1,e2,e2]
  have l1:(st.map (Value.int .u32)).length=8:=by simpa using hst
  have l2:(b.map (Value.int .u8)).length=64:=by simpa using hb
  show (st.map (Value.int .u32)++(b.map (Value.int .u8)++[u])).take (8+q)++(z.take n).map (Value.int .u8)++(st.map (Value.int .u32)++(b.map (Value.int .u8)++[u])).drop (8+q+n)=_
  rw [show 8+q+n=8+(q+n) by omega]
  rw [←l1,List.take_length_add_append,List.drop_length_add_append,List.take_append_of_le_length (by omega)]
  rw [List.drop_append_of_le_length (by omega)]
  unfold into
  simp only [List.map_append,List.map_take,List.map_drop,List.append_assoc]
theorem Qi4 (x y:Operand) (tx ty:TypeId) (d:Nat) (ho:o.op=.call { callee:=.builtin .copy,args:=#[x,y],argTypes:=#[tx,ty] }) (hu:Tryd.prog.underlying tx=some (.slice 5)) (hd:o.dst=some d) (hgd:Qbr ops o N L=some true)
    {g q n B:Nat} {st b z:List Int} {u v:Value} {T:TypeId} (hst:st.length=8) (hb:b.length=64) (hx:Rely.look (envN N L) x=.slice (some ⟨g,8+q,none⟩) (64-q) (64-q)) (hy:Rely.look (envN N L) y=v) (hr:RdK .u8 B z v W)
    (hg:W.heap[g]? = some (.cells (cat [ints .u32 st,ints .u8 b,#[u]]) T)) (hq:q<64) (hn:n=min z.length (64-q)) (h0:0<z.length)
    (k:∀ W':World,Puts W g W'→W'.heap[g]? = some (.cells (cat [ints .u32 st,ints .u8 (into b z q n),#[u]]) T)→WL Tryd.prog ops Q rest (Qa0 ds N ((d,.int .i64 ((n:Nat):Int))::L)) W'):WL Tryd.prog ops Q (o::rest) (Qa0 ds N L) W:=by
  obtain ⟨a,cap,rfl,y2,y3,y4,y5⟩:=hr
  obtain ⟨gz,oz,rfl,z2,z3,z4⟩:=y5.resolve_left (fun e=>by rw [e] at h0; simp at h0)
  have hlen:((z.take n).map (Value.int .u8)).length=n:=by simp; omega
  have hsz:(cat [ints .u32 st,ints .u8 b,#[u]]).size=73:=by
    rw [←Array.length_toList,cat3]; simp [ints]; omega
  have h:=run_copy_row (P:=Tryd.prog) W tx ty o.type 5 g (8+q) (64-q) (64-q) ⟨gz,oz,none⟩ z.length cap (cat [ints .u32 st,ints .u8 b,#[u]]) T ((z.take n).map (Value.int .u8)) hu kj hg (by rw [hlen]; exact hn)
    (QiV (k:=.u8) (ys:=z.take n) fun i hi=>by
      rw [List.length_take] at hi
      rw [z4 i (by omega)]
      simp [nth,show i<n by omega]) (by rw [hlen,hsz]; omega) (QiR .u8 _)
  rw [hlen,Qku hst hb (by omega) (by omega)] at h
  refine Qbt (.int .i64 ((n:Nat):Int)) _ d hd hgd ?_ (k _ (Qbw _ _ _) (setRow_heap _ _ _ _ _ _ hg))
  unfold execOp
  simp only [ho,resolve,invoke,builtin,Sem.run_bind,Sem.run_pure,Result.andThen_ok,List.map_toArray,List.map_cons,List.map_nil,hx,hy,h,goInt]
theorem QhR {P : Program} {ρ:Operand→Value} {k:IntKind} {B:Nat} {ys:List Int} {v:Value} (t:TypeId) (x z:Operand) (l n:Nat) (e:TypeId) (ho:o.op=.slice t x (some z) none none) (hx:ρ x=v) (hv:RdK k B ys v W)
    (hu:P.underlying t=some (.slice e)) (hs:(P.info? e).map (·.size)=some 1) (kz:IntKind) (hz:ρ z=.int kz (l:Int)) (h1:l≤ys.length) (hn:ys.length-l=n) :
    ∃ a c,(execOp ρ o).run P W=.ok (.value (.slice a n c)) W∧RdK k B (ys.drop l) (.slice a n c) W∧(Value.slice a n c).ownBlock=v.ownBlock:=by
  obtain ⟨u,h2,h3,h5⟩:=Qf7 t x z l e ho hx hv hu hs kz hz h1
  obtain ⟨a,c,rfl,h4⟩:=id h3
  rw [List.length_drop,hn] at h2 h3 h5
  exact ⟨a,c,h2,h3,h5⟩
end
section
variable {ds : List Deferred} {ops : Array Oper} {Q : Exit → Act → World → Prop} {rest : List Oper} {o : Oper} {N : Nat} {L : Env} {W : World}
theorem Qf5 {P : Program} {k:IntKind} {B:Nat} {ys:List Int} {v:Value} (t:TypeId) (x z:Operand) (l n:Nat) (e:TypeId) (d:Nat) (ho:o.op=.slice t x (some z) none none) (hd:o.dst=some d) (hg:Qbr ops o N L=some true) (hx:Rely.look (envN N L) x=v) (hv:RdK k B ys v W)
    (hu:P.underlying t=some (.slice e)) (hs:(P.info? e).map (·.size)=some 1) (kz:IntKind) (hz:Rely.look (envN N L) z=.int kz (l:Int)) (h1:l≤ys.length) (hn:ys.length-l=n)
    (kk:∀ a c,RdK k B (ys.drop l) (.slice a n c) W→(Value.slice a n c).ownBlock=v.ownBlock→WL P ops Q rest (Qa0 ds N ((d,.slice a n c)::L)) W):WL P ops Q (o::rest) (Qa0 ds N L) W:=by
  obtain ⟨a,c,h2,h3,h4⟩:=QhR (ρ:=Rely.look (envN N L)) t x z l n e ho hx hv hu hs kz hz h1 hn
  exact Qbt _ _ d hd hg h2 (kk a c h3 h4)
end
theorem Qbf {P : Program} {ρ:Operand→Value} {o:Oper} {w:World} (ty:TypeId) (x y:Operand) (g off:Nat) (t:TypeId) (pre post:List (Array Value)) (u v:Value) (hg:w.heap[g]? = some (.cells (cat (pre++([#[u]]++post))) t))
    (ho:o.op=.store ty x y) (hx:ρ x=.pointer (some ⟨g,off,none⟩)) (hy:ρ y=v) (hi:(P.info? ty).map (·.size)=some 1) (hp:(cat pre).size=off) (h1:v.oneCell'=true) (hcs:v.cells=#[v]) :
    (execOp ρ o).run P w=.ok .skip (w.setRow g (cat (pre++([#[v]]++post)))):=by
  subst hp
  have hs:Nat.blt (cat pre).size (cat (pre++([#[u]]++post))).size=true:=by
    have:(cat pre).size<(cat (pre++([#[u]]++post))).size:=by
      rw [QaT,QaT,qS,qS]
      have e1:(cat [#[u]]).size=1:=rfl
      omega
    simpa using this
  have e:(cat (pre++([#[u]]++post))).setIfInBounds (cat pre).size v=cat (pre++([#[v]]++post)):=by
    rw [QaT,QaT,QaT,QaT]
    have e1:∀ z,cat [#[z]]=#[z]:=fun z=>rfl
    rw [e1,e1,Array.setIfInBounds_append_right (qR _),Nat.sub_self,Array.setIfInBounds_append_left (by simp)]
    rfl
  rw [←e]
  exact QbC ty x y g _ t _ v hg ho hx hy hi hs h1 hcs
end Go.Proofs.YtibegnjaphohaaaDoor.Sha
end
section
namespace Go.Proofs.YtibegnjaphohaaaDoor.Sha
open Go Go.RowKit
open Rely Auto Own
theorem addC (g B:Nat) (t ys:List Int) (v:Value) (tc:TypeId) (w:World) (hc:w.heap[2]? = some (.cells (ints .u64 QaN) tc)) (hcg:2≠g) (hB:ys=[]∨v.ownBlock≠some g) (hyb:Qat ys) (hlen:t.length+ys.length≤1000000000) (hd:HasD g t w) (hy:RdK .u8 B ys v w) :
  Calls Tryd.prog 71 #[.pointer (some ⟨g,0,none⟩),v] w (fun e W=>e=.returned (.tuple #[])∧ExtB g w W∧HasD g (t++ys) W):=by
 obtain ⟨a0,c0,rfl,-⟩:=id hy
 refine enter 40 [(0,.pointer (some ⟨g,0,none⟩)),(1,.slice a0 ys.length c0)] Tryd.func71 rfl rfl kj rfl <| wp_seq_k fun K3 hK3=>sgB kj <| cond_false kj <| wp_skip <| hK3 _ _ <| wp_block ?_
 have hyb2:∀ {k:Nat},Qat (ys.drop k):=fun x hx=>hyb x (List.mem_of_mem_drop hx)
 refine QaC (fun (s1:Nat×Option Addr×Nat)=>[(0,.pointer (some ⟨g,0,none⟩)),(1,.slice s1.2.1 (ys.length-s1.1) s1.2.2)]) (fun (s1:Nat×Option Addr×Nat) W=>(s1.1≤ys.length)∧(RdK .u8 B (ys.drop s1.1) (.slice s1.2.1 (ys.length-s1.1) s1.2.2) W)∧(s1.1<ys.length→(Value.slice s1.2.1 (ys.length-s1.1) s1.2.2).ownBlock≠some g)∧(HasD g (t++ys.take s1.1) W)∧(ExtB g w W)) (fun (s1:Nat×Option Addr×Nat)=>ys.length-s1.1) (0,a0,c0) ⟨kj,kj,trivial⟩ ⟨(Nat.zero_le _),hy,(fun h=>hB.resolve_left (fun e=>by rw [e] at h; exact absurd h (Nat.lt_irrefl _))),(by simpa using hd),(ExtB.refl g w)⟩ fun s1 X1 V1 hI1=>?_
 obtain ⟨k,a,c⟩:=s1
 obtain ⟨hk,hr,hnb,hD,xx1⟩:=hI1
 replace hk:k≤ys.length:=hk
 replace hr:RdK .u8 B (ys.drop k) (.slice a (ys.length-k) c) V1:=hr
 replace hnb:k<ys.length→(Value.slice a (ys.length-k) c).ownBlock≠some g:=hnb
 replace hD:HasD g (t++ys.take k) V1:=hD
 replace xx1:ExtB g w V1:=xx1
 refine wp_seq_k fun K5 hK5=>sgB kj <| Qa3 (t:=decide (((ys.length-k:Nat):Int)>0)) kj (fun c7=>?_) (fun c7=>?_)
 ·skip
  have hk2:k<ys.length:=by have:=of_decide_eq_true c7; omega
  obtain ⟨b,hbl,hbb,hbp,hmany,hrow⟩:=hD
  obtain ⟨t1,ht1⟩:∃ z,z=t++ys.take k:=⟨_,rfl⟩
  rw [←ht1] at hbp hmany hrow
  have hlt1:t1.length=t.length+k:=by rw [ht1,List.length_append,List.length_take]; omega
  obtain ⟨m,hm⟩:∃ z,z=t1.length:=⟨_,rfl⟩
  obtain ⟨s,hs⟩:∃ z,z=absorb S0 t1 (t1.length/64):=⟨_,rfl⟩
  obtain ⟨n,hn⟩:∃ z,z=min (ys.drop k).length (64-m%64):=⟨_,rfl⟩
  have hn0:0<n:=by rw [hn,List.length_drop]; omega
  have hn1:n≤ys.length-k:=by rw [hn,List.length_drop]; omega
  have hn2:n≤64-m%64:=by rw [hn]; omega
  rw [←hs,←hm] at hrow
  replace hrow:V1.heap[g]? = some (.cells (cat [ints .u32 ([wv s.a,wv s.b,wv s.c,wv s.d,wv s.e,wv s.f,wv s.g,wv s.h]),ints .u8 (b),#[.int .i64 ((m:Nat):Int)]]) 129):=hrow
  refine wp_skip <| hK5 _ _ <| wp_block <| wp_seq_k fun K8 hK8=>Qbe 10 [⟨none,[(0,none)]⟩,⟨none,[(10,some 0)]⟩,⟨none,[(11,some 1)]⟩,⟨none,[(0,none)]⟩,⟨none,[(13,some 3)]⟩,⟨none,[(14,some 4)]⟩,⟨none,[(15,some 5)]⟩,⟨none,[(16,some 6)]⟩,⟨none,[(12,some 2),(17,some 7)]⟩,⟨none,[(1,none)]⟩] kj kj fun F hF=>Qa7 (Qas _) (.pointer (some ⟨g,0,none⟩)) kj kj (fun W=>by kernel_rfl) <| Qa7 (Qas _) (.pointer (some ⟨g,0,none⟩)) kj kj (fun W=>by kernel_rfl) <| Qa7 (Qas _) (.pointer (some ⟨g,8,none⟩)) kj kj (fun W=>by kernel_rfl) <| Qa7 (Qas _) (.pointer (some ⟨g,0,none⟩)) kj kj (fun W=>by kernel_rfl) <| Qa7 (Qas _) (.pointer (some ⟨g,0,none⟩)) kj kj (fun W=>by kernel_rfl) ?_
  refine Qa7 (Qas _) (.pointer (some ⟨g,72,none⟩)) kj kj (fun W=>by kernel_rfl) <| Qbd (Qas _) (.int .i64 ((m:Nat):Int)) kj kj (fun W hR=>(Qag 3 _ g 72 129 _ (.int .i64 ((m:Nat):Int)) _ (Qac (Qac hrow (Qaz _)) hR) rfl kj (Qaw [ints .u32 ([wv s.a,wv s.b,wv s.c,wv s.d,wv s.e,wv s.f,wv s.g,wv s.h]),ints .u8 (b)] [#[.int .i64 ((m:Nat):Int)]] [] 72 (by rw [Qaa,Qaa]; simp only [qS,cat,((Qad _ _).trans hbl)]; rfl) 0 _ rfl) kj)) ?_
  refine Qa7 (Qas _) (.int .i64 ((m%64:Nat):Int)) kj kj (fun W=>(Qai (u:=.int .i64 (Int.tmod (((m:Nat):Int)) (64))) kj (congrArg (Value.int .i64) (Qcz _ 64)))) <| Qa7 (Qas _) (.slice (some ⟨g,8+(m%64),none⟩) (64-(m%64)) (64-(m%64))) kj kj (fun W=>(Qdp 107 _ _ _ (m%64) 64 64 g 8 5 rfl kj kj kj ⟨.i64,by kernel_rfl⟩ rfl (by omega) (by omega) (by omega))) <| Qa7 (Qas _) (.slice a (ys.length-k) c) kj kj (fun W=>by kernel_rfl) <| Qdk (hF _ fun W2 e2=>?_)
  simp only [List.nil_append,List.cons_append,List.take_succ_cons,List.take_zero,List.drop_succ_cons,List.drop_zero,finE,up]
  clear hF
  have f9_2:=(hr.ext e2)
  have hbl2:(into b (ys.drop k) (m%64) n).length=64:=Qh4 hbl (by rw [List.length_drop]; omega) (by omega)
  refine Qi4 (.tmp 18) (.tmp 19) 38 38 20 rfl kj rfl kj (q:=m%64) (n:=n) (b:=b) rfl hbl kj kj f9_2 (Qac hrow e2) (by omega) hn (by rw [List.length_drop]; omega) fun W3 p3 r2_3=>?_
  refine sg 1 kj <| sgN hK8 <| sgC fun K10 hK10=>sg 2 kj <| Qf5 38 (.tmp 21) (.tmp 22) n (ys.length-k-n) 5 23 rfl rfl kj kj (f9_2.putsN p3 (hnb hk2)) kj kj .i64 kj (by rw [List.length_drop]; omega) (by rw [List.length_drop]) fun a2 c2 hr2 hob=>?_
  have hnb2:(Value.slice a2 (ys.length-k-n) c2).ownBlock≠some g:=by rw [hob]; exact hnb hk2
  refine sg 1 kj <| sgN hK10 <| sgC fun K12 hK12=>sg 3 kj <| Qab (.int .i64 ((m:Nat):Int)) 27 rfl kj (Qag 3 _ g 72 129 _ (.int .i64 ((m:Nat):Int)) _ r2_3 rfl kj (Qaw [ints .u32 ([wv s.a,wv s.b,wv s.c,wv s.d,wv s.e,wv s.f,wv s.g,wv s.h]),ints .u8 (into b (ys.drop k) (m%64) n)] [#[.int .i64 ((m:Nat):Int)]] [] 72 (by rw [Qaa,Qaa]; simp only [qS,cat,((Qad _ _).trans hbl2)]; rfl) 0 _ rfl) kj) ?_
  refine sg 1 kj <| Qab (.int .i64 ((m+n:Nat):Int)) 29 rfl kj (Qai (u:=.int .i64 (IntKind.i64.wrap (((m:Nat):Int)+((n:Nat):Int)))) kj (congrArg (Value.int .i64) (i64n _ _ (by omega) (by omega)))) <| sg 2 kj <| Qaj g _ (cat [ints .u32 ([wv s.a,wv s.b,wv s.c,wv s.d,wv s.e,wv s.f,wv s.g,wv s.h]),ints .u8 (into b (ys.drop k) (m%64) n),#[.int .i64 ((m+n:Nat):Int)]]) 129 r2_3 rfl kj (Qbf 3 _ _ g 72 129 [ints .u32 ([wv s.a,wv s.b,wv s.c,wv s.d,wv s.e,wv s.f,wv s.g,wv s.h]),ints .u8 (into b (ys.drop k) (m%64) n)] [] _ (.int .i64 ((m+n:Nat):Int)) r2_3 rfl kj kj kj (by rw [Qaa,Qaa]; simp only [qS,cat,((Qad _ _).trans hbl2)]; rfl) rfl rfl) fun W4 p4 r2_4=>?_
  have x4:=ExtB.puts (ExtB.puts (ExtB.ext xx1 e2) p3) p4
  refine sgN hK12 <| sgC fun K13 hK13=>sg 3 kj <| Qab (.int .i64 ((m+n:Nat):Int)) 35 rfl kj (Qag 3 _ g 72 129 _ (.int .i64 ((m+n:Nat):Int)) _ r2_4 rfl kj (Qaw [ints .u32 ([wv s.a,wv s.b,wv s.c,wv s.d,wv s.e,wv s.f,wv s.g,wv s.h]),ints .u8 (into b (ys.drop k) (m%64) n)] [#[.int .i64 ((m+n:Nat):Int)]] [] 72 (by rw [Qaa,Qaa]; simp only [qS,cat,((Qad _ _).trans hbl2)]; rfl) 0 _ rfl) kj) ?_
  refine Qab (.int .i64 (((m+n)%64:Nat):Int)) 36 rfl kj (Qai (u:=.int .i64 (Int.tmod (((m+n:Nat):Int)) (64))) kj (congrArg (Value.int .i64) (Qcz _ 64))) <| sg 1 kj <| sgN hK13 <| Qa3 (t:=((((m+n)%64:Nat):Int)==0)) kj (fun c14=>?_) (fun c14=>?_)
  ·skip
   have hmod:(m+n)%64=0:=by have:=c14; have h2:=eq_of_beq this; omega
   refine Qaf <| sg 1 kj <| Qa6 (fun v W'=>v=.tuple #[]∧ExtB g W4 W'∧W'.heap[g]? = some (.cells (cat [ints .u32 ((blk s (into b (ys.drop k) (m%64) n)).l.map wv),ints .u8 (into b (ys.drop k) (m%64) n),#[.int .i64 ((m+n:Nat):Int)]]) 129)) 74 #[.pointer (some ⟨g,0,none⟩)] 39 rfl kj kj ((Qnj g s _ hbl2 (Qec hbb hyb2) _ tc _ (Puts.row p4 (Puts.row p3 (Qac (ExtB.row xx1 hc hcg) e2) hcg) hcg) r2_4).mono fun e w' h=>⟨_,h.1,rfl,h.2⟩) fun v W5 h=>?_
   obtain ⟨rfl,q5,r2_5⟩:=h
   refine Qak ?_
   have hr3:RdK .u8 B (ys.drop (k+n)) (.slice a2 (ys.length-(k+n)) c2) W5:=by
    have h:=((hr2.putsN p4 hnb2).extN q5 hnb2)
    rw [List.drop_drop,show ys.length-k-n=ys.length-(k+n) by omega] at h
    exact h
   have hlen3:(t1++(ys.drop k).take n).length=m+n:=by rw [List.length_append,List.length_take,List.length_drop]; omega
   have hnb3:(Value.slice a2 (ys.length-(k+n)) c2).ownBlock≠some g:=by rw [show ys.length-(k+n)=ys.length-k-n by omega]; exact hnb2
   have hT:t++ys.take (k+n)=t1++(ys.drop k).take n:=by rw [ht1,List.append_assoc,List.take_add]
   have hzn:n≤(ys.drop k).length:=by rw [List.length_drop]; omega
   have hb0:(into b (ys.drop k) (m%64) n).take ((t++ys.take (k+n)).length%64)=(t++ys.take (k+n)).drop (64*((t++ys.take (k+n)).length/64)):=by
    rw [hT,hlen3,hmod,List.take_zero,List.drop_of_length_le (by omega)]
   have hst:blk s (into b (ys.drop k) (m%64) n)=absorb S0 (t++ys.take (k+n)) ((t++ys.take (k+n)).length/64):=by rw [hT,hs,hm]; exact Qjk hbl hzn hbp (by omega)
   have hD2:HasD g (t++ys.take (k+n)) W5:=⟨_,hbl2,Qec hbb hyb2,hb0,by rw [hT,hlen3]; omega,by rw [←hst,hT,hlen3]; exact r2_5⟩
   repeat (first | with_reducible refine goX1 ?_ | with_reducible refine goX2 ?_ | with_reducible refine goX3 ?_)
   exact Qa4 (k+n,a2,c2) ⟨kj,(congrArg (fun z=>Value.slice a2 z c2) (by omega)),trivial⟩ ⟨(by omega),hr3,(fun _=>hnb3),hD2,(ExtB.trans x4 q5)⟩ (by show ys.length-(k+n)<ys.length-k; omega)
  ·skip
   have hmod:¬ (m+n)%64=0:=by have:=c14; intro h0; rw [h0] at this; exact absurd this (by decide)
   refine wp_skip ?_
   have hr3:RdK .u8 B (ys.drop (k+n)) (.slice a2 (ys.length-(k+n)) c2) W4:=by
    have h:=(hr2.putsN p4 hnb2)
    rw [List.drop_drop,show ys.length-k-n=ys.length-(k+n) by omega] at h
    exact h
   have hlen3:(t1++(ys.drop k).take n).length=m+n:=by rw [List.length_append,List.length_take,List.length_drop]; omega
   have hnb3:(Value.slice a2 (ys.length-(k+n)) c2).ownBlock≠some g:=by rw [show ys.length-(k+n)=ys.length-k-n by omega]; exact hnb2
   have hT:t++ys.take (k+n)=t1++(ys.drop k).take n:=by rw [ht1,List.append_assoc,List.take_add]
   have hzn:n≤(ys.drop k).length:=by rw [List.length_drop]; omega
   have hb0:(into b (ys.drop k) (m%64) n).take ((t++ys.take (k+n)).length%64)=(t++ys.take (k+n)).drop (64*((t++ys.take (k+n)).length/64)):=by
    rw [hT,hm]; exact Qjl hbl hzn hbp (by omega)
   have hst:s=absorb S0 (t++ys.take (k+n)) ((t++ys.take (k+n)).length/64):=by rw [hT,hs]; exact (QhP hzn (by omega)).symm
   have hD2:HasD g (t++ys.take (k+n)) W4:=⟨_,hbl2,Qec hbb hyb2,hb0,by rw [hT,hlen3]; omega,by rw [←hst,hT,hlen3]; exact r2_4⟩
   repeat (first | with_reducible refine goX1 ?_ | with_reducible refine goX2 ?_ | with_reducible refine goX3 ?_)
   exact Qa4 (k+n,a2,c2) ⟨kj,(congrArg (fun z=>Value.slice a2 z c2) (by omega)),trivial⟩ ⟨(by omega),hr3,(fun _=>hnb3),hD2,x4⟩ (by show ys.length-(k+n)<ys.length-k; omega)
 ·skip
  have hk2:k=ys.length:=by have:=of_decide_eq_false c7; omega
  refine wp_exit ?_
  repeat (first | with_reducible refine goX1 ?_ | with_reducible refine goX2 ?_ | with_reducible refine goX3 ?_)
  exact (show bodyPost _ _ _ .normal _ _ from end0 rfl ⟨rfl,xx1,by rw [hk2,List.take_length] at hD; exact hD⟩)
end Go.Proofs.YtibegnjaphohaaaDoor.Sha
end
section
namespace Go.Proofs.YtibegnjaphohaaaDoor.Sha
open Go Go.RowKit
open Rely Auto Own
theorem QeY (n : Nat):Qat (List.replicate n 0):=fun x hx=>by
  have:=List.eq_of_mem_replicate hx
  subst this; decide
theorem QlT (n : Nat):(64-(n+1+8)%64)%64=QaZ n:=by unfold QaZ; omega
theorem Qmo (n : Nat) (h:n≤1000000000):IntKind.u64.wrap ((n:Nat):Int)=((n:Nat):Int):=by
  have:∀ z:Int,IntKind.u64.wrap z=z%2^64:=fun _=>rfl
  rw [this]; omega
theorem Qni (n : Nat) (h:n≤1000000000):IntKind.u64.wrap (((n:Nat):Int)*2^min (3:Int).toNat IntKind.u64.bits)=((8*n:Nat):Int):=by
  have:∀ z:Int,IntKind.u64.wrap z=z%2^64:=fun _=>rfl
  rw [this,show ((2:Int)^min (3:Int).toNat IntKind.u64.bits)=8 from rfl]; omega
theorem Qmp (n : Nat) (h:n≤1000000000):((n:Nat):Int).fdiv (2^min (61:Int).toNat IntKind.u64.bits)=0:=by
  rw [Int.fdiv_eq_ediv_of_nonneg _ (by decide),show ((2:Int)^min (61:Int).toNat IntKind.u64.bits)=2305843009213693952 from rfl]; omega
theorem Qj1 (m : Nat):IntKind.u8.wrap ((m:Nat):Int)=((m%256:Nat):Int):=by
  have:∀ z:Int,IntKind.u8.wrap z=z%2^8:=fun _=>rfl
  rw [this]; omega
theorem Qno (n i:Nat):((8*n/256^i:Nat):Int).fdiv (2^min (8:Int).toNat IntKind.u64.bits)=((8*n/256^(i+1):Nat):Int):=by
  rw [Int.fdiv_eq_ediv_of_nonneg _ (by decide),show ((2:Int)^min (8:Int).toNat IntKind.u64.bits)=256 from rfl,Nat.pow_succ,←Nat.div_div_eq_div_mul]; omega
theorem lowlt (n i:Nat) (h:n≤1000000000):8*n/256^(i+1)<18446744073709551616:=Nat.lt_of_le_of_lt (Nat.div_le_self _ _) (by omega)
theorem or0 (m : Nat) (h:m<18446744073709551616):bits .or .u64 ((m:Nat):Int) 0=((m:Nat):Int):=by
  have:=bits_or_u64_nat m 0 h (by decide)
  rw [Nat.or_zero] at this
  exact this
def padL (n i:Nat):List Int:=128::(List.replicate (QaZ n) 0++(List.replicate (8-i) 0++(be8 (8*n)).drop (8-i)))
theorem QjS (n : Nat) {i:Nat} (h:i≤8):(padL n i).length=1+QaZ n+8:=by
  have:(be8 (8*n)).length=8:=rfl
  simp [padL,this]; omega
theorem QdC (n : Nat):(Qep n).length=1+QaZ n+8:=by
  have:(be8 (8*n)).length=8:=rfl
  simp [Qep,this]; omega
theorem Qmz (n : Nat):(List.replicate (1+QaZ n+8) (0:Int)).set 0 128=padL n 0:=by
  rw [show 1+QaZ n+8=(QaZ n+8)+1 by omega,List.replicate_succ,List.set_cons_zero,←List.replicate_append_replicate]
  rfl
theorem QjR (n i:Nat) (h:i<8):(padL n i).set (1+QaZ n+8-1-i) ((8*n/256^i%256:Nat):Int)=padL n (i+1):=by
  unfold padL
  rw [show 1+QaZ n+8-1-i=(QaZ n+(7-i))+1 by omega,List.set_cons_succ,List.set_append_right _ _ (by simp),List.length_replicate,Nat.add_sub_cancel_left]
  congr 2
  match i,h with
  | 0,_=>rfl
  | 1,_=>rfl
  | 2,_=>rfl
  | 3,_=>rfl
  | 4,_=>rfl
  | 5,_=>rfl
  | 6,_=>rfl
  | 7,_=>rfl
theorem QjP (n : Nat) (hn:n≤1000000000) (w:World):Calls Tryd.prog 75 #[.int .i64 ((n:Nat):Int),.int .i64 64,.int .i64 8] w (QbN w (OwnN .u8 5 w.heap.size (Qep n))):=by
 have hF:QaZ n<64:=by unfold QaZ; omega
 refine enter 59 [(0,.int .i64 ((n:Nat):Int)),(1,.int .i64 64),(2,.int .i64 8)] Tryd.func75 rfl rfl kj rfl <| sgB kj <| sgC fun K2 hK2=>sg 2 kj <| Qab (.int .i64 ((n+1:Nat):Int)) 15 rfl kj (Qai (u:=.int .i64 (IntKind.i64.wrap (((n:Nat):Int)+1))) kj (congrArg (Value.int .i64) (i64n _ _ (by omega) (by omega)))) <| sg 1 kj <| Qab (.int .i64 (((n+1)+8:Nat):Int)) 17 rfl kj (Qai (u:=.int .i64 (IntKind.i64.wrap (((n+1:Nat):Int)+8))) kj (congrArg (Value.int .i64) (i64n _ _ (by omega) (by omega)))) <| sg 1 kj <| Qab (.int .i64 ((((n+1)+8)%64:Nat):Int)) 19 rfl kj (Qai (u:=.int .i64 (Int.tmod ((((n+1)+8:Nat):Int)) (64))) kj (congrArg (Value.int .i64) (Qcz _ 64))) <| Qab (.int .i64 ((64-(((n+1)+8)%64):Nat):Int)) 20 rfl kj (Qai (u:=.int .i64 (IntKind.i64.wrap (64-((((n+1)+8)%64:Nat):Int)))) kj (congrArg (Value.int .i64) (i64n _ _ (by omega) (by omega)))) ?_
 refine sg 1 kj <| Qab (.int .i64 (((QaZ n:Nat):Int))) 22 rfl kj (Qai (u:=.int .i64 (Int.tmod (((64-(((n+1)+8)%64):Nat):Int)) (64))) kj (congrArg (Value.int .i64) ((Qcz _ 64).trans (congrArg (fun z:Nat=>(z:Int)) (QlT n))))) <| sg 1 kj <| sgN hK2 <| sgC fun K3 hK3=>sg 1 kj <| Qab (.int .i64 ((1+(QaZ n):Nat):Int)) 24 rfl kj (Qai (u:=.int .i64 (IntKind.i64.wrap (1+(((QaZ n:Nat):Int))))) kj (congrArg (Value.int .i64) (i64n _ _ (by omega) (by omega)))) <| sg 1 kj <| Qab (.int .i64 (((1+(QaZ n))+8:Nat):Int)) 26 rfl kj (Qai (u:=.int .i64 (IntKind.i64.wrap (((1+(QaZ n):Nat):Int)+8))) kj (congrArg (Value.int .i64) (i64n _ _ (by omega) (by omega)))) <| QaL (ints .u8 (List.replicate ((1+(QaZ n))+8) 0)) 5 ((1+(QaZ n))+8) 27 rfl kj (Qgg 38 _ _ .i64 .i64 ((1+(QaZ n))+8) 5 rfl kj kj kj (.inr kj) (by omega)) fun g4 W1 l4 e1 r4_1=>?_
 have b4:=qT (Rely.Ext.refl w).size l4
 refine sg 1 kj <| sgN hK3 <| sgC fun K5 hK5=>sg 1 kj <| Qab (.pointer (some ⟨g4,0,none⟩)) 29 rfl kj (Qbb 38 _ _ .i64 (0) g4 ((1+(QaZ n))+8) ((1+(QaZ n))+8) 5 rfl kj kj kj kj (by omega)) <| Qaj g4 _ (ints .u8 ((List.replicate ((1+(QaZ n))+8) 0).set 0 128)) 5 r4_1 rfl kj (Qao 5 _ _ g4 0 5 _ _ r4_1 rfl kj kj kj (Nat.lt_of_lt_of_eq (by omega) (List.length_replicate (n:=((1+(QaZ n))+8))).symm)) fun W2 p2 r4_2=>sgN hK5 <| sgC fun K6 hK6=>sg 1 kj <| Qab (.int .u64 (((n:Nat):Int))) 31 rfl kj (Qai (u:=.int .u64 (IntKind.u64.wrap ((n:Nat):Int))) kj (congrArg (Value.int .u64) (Qmo n (by omega)))) ?_
 refine Qab (.int .u64 (((8*n:Nat):Int))) 32 rfl kj (Qa1 .shl _ _ _ _ .u64 .u64 _ _ _ rfl kj kj (Qg7 _ _ _ _ _ _ (by decide) (Qni n (by omega)))) <| sg 1 kj <| Qab (.int .u64 (((n:Nat):Int))) 34 rfl kj (Qai (u:=.int .u64 (IntKind.u64.wrap ((n:Nat):Int))) kj (congrArg (Value.int .u64) (Qmo n (by omega)))) <| Qab (.int .u64 (0)) 35 rfl kj (Qa1 .shr _ _ _ _ .u64 .u64 _ _ _ rfl kj kj (QaQ _ _ _ _ _ _ (by decide) (Qmp n (by omega)))) <| sg 2 kj <| sgN hK6 <| wp_seq_k fun K7 hK7=>sgB kj <| wp_block <| QaC (fun (s1:Nat)=>[(8,.slice (some ⟨g4,0,none⟩) ((1+(QaZ n))+8) ((1+(QaZ n))+8)),(9,.int .u64 ((8*n/256^s1:Nat):Int)),(10,.int .u64 0),(36,.int .i64 8),(37,.int .i64 ((s1:Nat):Int))]) (fun (s1:Nat) W=>(s1≤8)∧(W.heap[g4]? = some (.cells (ints .u8 (padL n s1)) 5))∧(Qah [g4] W2 W)∧(Ext w W)) (fun (s1:Nat)=>8-s1) 0 ⟨kj,(congrArg (fun z:Nat=>Value.int .u64 (z:Int)) (Nat.div_one _).symm),kj,kj,kj,trivial⟩ ⟨(Nat.zero_le _),(Qbi r4_2 (Qmz n)),(Qah.refl [g4] W2),(Puts.ext p2 (Ext.tr (Rely.Ext.refl w) e1) b4)⟩ fun s1 X1 V1 hI1=>?_
 obtain ⟨i,hs1⟩:∃ z,z=s1:=⟨_,rfl⟩
 subst hs1
 obtain ⟨hi,q4_1,kk1,xx1⟩:=hI1
 replace hi:i≤8:=hi
 replace q4_1:V1.heap[g4]? = some (.cells (ints .u8 (padL n i)) 5):=q4_1
 replace kk1:Qah [g4] W2 V1:=kk1
 replace xx1:Ext w V1:=xx1
 have q3:=kk1
 refine sgB kj <| wp_seq_k fun K10 hK10=>Qa3 (t:=decide (((i:Nat):Int)<8)) kj (fun c11=>?_) (fun c11=>?_)
 ·skip
  have hlt38:i<8:=by have:=of_decide_eq_true c11; omega
  refine wp_skip <| hK10 _ _ <| wp_seq_k fun K12 hK12=>wp_block <| sgB kj <| sgC fun K14 hK14=>sg 1 kj <| Qab (.int .u8 (((8*n/256^i%256:Nat):Int))) 41 rfl kj (Qai (u:=.int .u8 (IntKind.u8.wrap ((8*n/256^i:Nat):Int))) kj (congrArg (Value.int .u8) (Qj1 _))) <| sg 1 kj <| sgN hK14 ?_
  refine sgC fun K15 hK15=>sg 3 kj <| Qab (.int .i64 ((((1+(QaZ n))+8)-1:Nat):Int)) 45 rfl kj (Qai (u:=.int .i64 (IntKind.i64.wrap ((((1+(QaZ n))+8:Nat):Int)-1))) kj (congrArg (Value.int .i64) (i64n _ _ (by omega) (by omega)))) <| sg 1 kj <| Qab (.int .i64 (((((1+(QaZ n))+8)-1)-i:Nat):Int)) 47 rfl kj (Qai (u:=.int .i64 (IntKind.i64.wrap (((((1+(QaZ n))+8)-1:Nat):Int)-((i:Nat):Int)))) kj (congrArg (Value.int .i64) (i64n _ _ (by omega) (by omega)))) <| sg 1 kj <| Qab (.pointer (some ⟨g4,((((1+(QaZ n))+8)-1)-i),none⟩)) 49 rfl kj (Qbb 38 _ _ .i64 ((((1+(QaZ n))+8)-1)-i) g4 ((1+(QaZ n))+8) ((1+(QaZ n))+8) 5 rfl kj kj kj kj (by omega)) <| Qaj g4 _ (ints .u8 ((padL n i).set ((((1+(QaZ n))+8)-1)-i) (((8*n/256^i%256:Nat):Int)))) 5 q4_1 rfl kj (Qao 5 _ _ g4 ((((1+(QaZ n))+8)-1)-i) 5 _ _ q4_1 rfl kj kj kj (Nat.lt_of_lt_of_eq (by omega) (QjS n (by omega)).symm)) fun W4 p4 r4_4=>sgN hK15 <| sgC fun K16 hK16=>?_
  refine sg 1 kj <| Qab (.int .u64 (((8*n/256^(i+1):Nat):Int))) 51 rfl kj (Qa1 .shr _ _ _ _ .u64 .u64 _ _ _ rfl kj kj (QaQ _ _ _ _ _ _ (by decide) (Qno n i))) <| sg 1 kj <| Qab (.int .u64 (0)) 53 rfl kj (Qa1 .shl _ _ _ _ .u64 .u64 _ _ _ rfl kj kj (Qg7 _ _ _ _ _ _ (by decide) (show IntKind.u64.wrap (0*2^min (56:Int).toNat IntKind.u64.bits)=0 from rfl))) <| Qab (.int .u64 (((8*n/256^(i+1):Nat):Int))) 54 rfl kj (Qai (u:=.int .u64 (bits .or .u64 (((8*n/256^(i+1):Nat):Int)) (0))) kj (congrArg (Value.int .u64) (or0 _ (lowlt n i (by omega))))) <| sg 1 kj <| sgN hK16 <| Qaf <| sg 1 kj <| Qab (.int .u64 (0)) 56 rfl kj (Qa1 .shr _ _ _ _ .u64 .u64 _ _ _ rfl kj kj (QaQ _ _ _ _ _ _ (by decide) (show Int.fdiv 0 (2^min (8:Int).toNat IntKind.u64.bits)=0 from rfl))) ?_
  refine sg 1 kj <| Qak <| hK12 _ _ <| Qaf <| Qab (.int .i64 ((i+1:Nat):Int)) 57 rfl kj (Qai (u:=.int .i64 (IntKind.i64.wrap (((i:Nat):Int)+1))) kj (congrArg (Value.int .i64) (i64n _ _ (by omega) (by omega)))) <| sg 1 kj <| Qak ?_
  repeat (first | with_reducible refine goX1 ?_ | with_reducible refine goX2 ?_ | with_reducible refine goX3 ?_)
  exact Qa4 (i+1) ⟨kj,kj,kj,kj,kj,trivial⟩ ⟨(by omega),(Qbi r4_4 (QjR n i hlt38)),(Qah.puts q3 p4 (.inl (by simp))),(Puts.ext p4 xx1 b4)⟩ (by omega)
 ·skip
  have heq38:i=8:=by have:=of_decide_eq_false c11; omega
  have r4_3_17:V1.heap[g4]? = some (.cells (ints .u8 (Qep n)) 5):=Qbi q4_1 (by rw [heq38]; rfl)
  refine wp_exit <| hK7 _ _ <| sgB kj <| wp_ret ?_
  repeat (first | with_reducible refine goR1 ?_ | with_reducible refine goR2 ?_)
  exact (show bodyPost _ _ _ .ret _ _ from ret1 (.slice (some ⟨g4,0,none⟩) ((1+(QaZ n))+8) ((1+(QaZ n))+8)) rfl (Qa2 kj) ⟨_,rfl,xx1,QbU (QdC n) b4 r4_3_17 (by simp only [maxLen]; omega)⟩)
theorem newC (tq : TypeId) (w:World) (hq:w.heap[1]? = some (.cells (ints .u64 Qam) tq)):Calls Tryd.prog 70 #[] w (QbN w (fun v W=>∃ g,v=.pointer (some ⟨g,0,none⟩)∧w.heap.size≤g∧HasD g [] W)):=by
  refine enter 21 [] Tryd.func70 rfl rfl kj rfl <| sgB kj <| sgC fun K3 hK3=>sg 1 kj <| Qap (cat [ints .u32 ([0,0,0,0,0,0,0,0]),ints .u8 (List.replicate 64 0),#[.int .i64 0]]) 129 5 rfl kj kj fun g4 W1 l4 e1 r4_1=>?_
  have b4:=qT (Rely.Ext.refl w).size l4
  refine sg 1 kj <| sgN hK3 <| wp_seq_k fun K5 hK5=>sgC fun K6 hK6=>Qab (.agg (ints .u64 (Qam))) 6 rfl kj (Qaq 130 _ 1 tq _ _ (Qac hq e1) rfl kj kj (isz (n:=8) kj ((Qad _ _).trans (show Qam.length=8 from rfl)))) <| sg 1 kj <| sgN hK6 <| wp_block <| wp_loop_rounds 9 ?_
  show Code.wp _ _ (Exit.then (Code.rounds _ _ _ 8) _) _ _
  refine sgB kj <| sgT kj <| wp_seq_k fun K9 hK9=>wp_block <| sgC fun K10 hK10=>sg 1 kj <| Qab (.int .u64 (nth Qam 0)) 10 rfl kj (QaF 130 _ _ .i64 .u64 (Qam) 0 8 77 (nth Qam 0) rfl kj kj kj kj kj (show Qam.length=8 from rfl) (by decide) rfl) <| sg 2 kj <| sgN hK10 <| Qaf ?_
  refine sg 3 kj <| Qab (.int .u64 (nth Qam 0/4294967296)) 14 rfl kj (Qa1 .shr _ _ _ _ .u64 .u64 _ _ _ rfl kj kj (QaQ _ _ _ _ _ _ (by decide) (Qf4 _))) <| Qab (.int .u32 (wv S0.a)) 15 rfl kj (Qai (u:=.int .u32 (IntKind.u32.wrap (nth Qam 0/4294967296))) kj (congrArg (Value.int .u32) (show IntKind.u32.wrap (nth Qam 0/4294967296)=wv S0.a by decide +kernel))) <| sg 3 kj <| Qaj g4 _ (cat [ints .u32 ([(wv S0.a),0,0,0,0,0,0,0]),ints .u8 (List.replicate 64 0),#[.int .i64 0]]) 129 r4_1 rfl kj (Qbh 113 _ _ g4 0 129 [] [ints .u8 (List.replicate 64 0),#[.int .i64 0]] ([0,0,0,0,0,0,0,0]) 0 0 _ r4_1 rfl kj kj kj kj rfl (Nat.lt_of_lt_of_eq (show 0<8 by decide) rfl.symm)) fun W2 p2 r4_2=>Qak <| hK9 _ _ <| sgA kj ?_
  show Code.rounds _ _ _ 8 _ _
  show Code.wp _ _ (Exit.then (Code.rounds _ _ _ 7) _) _ _
  refine sgB kj <| sgT kj <| wp_seq_k fun K13 hK13=>wp_block <| sgC fun K14 hK14=>sg 1 kj <| Qab (.int .u64 (nth Qam 1)) 10 rfl kj (QaF 130 _ _ .i64 .u64 (Qam) 1 8 77 (nth Qam 1) rfl kj kj kj kj kj (show Qam.length=8 from rfl) (by decide) rfl) <| sg 2 kj <| sgN hK14 <| Qaf ?_
  refine sg 3 kj <| Qab (.int .u64 (nth Qam 1/4294967296)) 14 rfl kj (Qa1 .shr _ _ _ _ .u64 .u64 _ _ _ rfl kj kj (QaQ _ _ _ _ _ _ (by decide) (Qf4 _))) <| Qab (.int .u32 (wv S0.b)) 15 rfl kj (Qai (u:=.int .u32 (IntKind.u32.wrap (nth Qam 1/4294967296))) kj (congrArg (Value.int .u32) (show IntKind.u32.wrap (nth Qam 1/4294967296)=wv S0.b by decide +kernel))) <| sg 3 kj <| Qaj g4 _ (cat [ints .u32 ([(wv S0.a),(wv S0.b),0,0,0,0,0,0]),ints .u8 (List.replicate 64 0),#[.int .i64 0]]) 129 r4_2 rfl kj (Qbh 113 _ _ g4 1 129 [] [ints .u8 (List.replicate 64 0),#[.int .i64 0]] ([(wv S0.a),0,0,0,0,0,0,0]) 0 1 _ r4_2 rfl kj kj kj kj rfl (Nat.lt_of_lt_of_eq (show 1<8 by decide) rfl.symm)) fun W3 p3 r4_3=>Qak <| hK13 _ _ <| sgA kj ?_
  show Code.rounds _ _ _ 7 _ _
  show Code.wp _ _ (Exit.then (Code.rounds _ _ _ 6) _) _ _
  refine sgB kj <| sgT kj <| wp_seq_k fun K17 hK17=>wp_block <| sgC fun K18 hK18=>sg 1 kj <| Qab (.int .u64 (nth Qam 2)) 10 rfl kj (QaF 130 _ _ .i64 .u64 (Qam) 2 8 77 (nth Qam 2) rfl kj kj kj kj kj (show Qam.length=8 from rfl) (by decide) rfl) <| sg 2 kj <| sgN hK18 <| Qaf ?_
  refine sg 3 kj <| Qab (.int .u64 (nth Qam 2/4294967296)) 14 rfl kj (Qa1 .shr _ _ _ _ .u64 .u64 _ _ _ rfl kj kj (QaQ _ _ _ _ _ _ (by decide) (Qf4 _))) <| Qab (.int .u32 (wv S0.c)) 15 rfl kj (Qai (u:=.int .u32 (IntKind.u32.wrap (nth Qam 2/4294967296))) kj (congrArg (Value.int .u32) (show IntKind.u32.wrap (nth Qam 2/4294967296)=wv S0.c by decide +kernel))) <| sg 3 kj <| Qaj g4 _ (cat [ints .u32 ([(wv S0.a),(wv S0.b),(wv S0.c),0,0,0,0,0]),ints .u8 (List.replicate 64 0),#[.int .i64 0]]) 129 r4_3 rfl kj (Qbh 113 _ _ g4 2 129 [] [ints .u8 (List.replicate 64 0),#[.int .i64 0]] ([(wv S0.a),(wv S0.b),0,0,0,0,0,0]) 0 2 _ r4_3 rfl kj kj kj kj rfl (Nat.lt_of_lt_of_eq (show 2<8 by decide) rfl.symm)) fun W4 p4 r4_4=>Qak <| hK17 _ _ <| sgA kj ?_
  show Code.rounds _ _ _ 6 _ _
  show Code.wp _ _ (Exit.then (Code.rounds _ _ _ 5) _) _ _
  refine sgB kj <| sgT kj <| wp_seq_k fun K21 hK21=>wp_block <| sgC fun K22 hK22=>sg 1 kj <| Qab (.int .u64 (nth Qam 3)) 10 rfl kj (QaF 130 _ _ .i64 .u64 (Qam) 3 8 77 (nth Qam 3) rfl kj kj kj kj kj (show Qam.length=8 from rfl) (by decide) rfl) <| sg 2 kj <| sgN hK22 <| Qaf ?_
  refine sg 3 kj <| Qab (.int .u64 (nth Qam 3/4294967296)) 14 rfl kj (Qa1 .shr _ _ _ _ .u64 .u64 _ _ _ rfl kj kj (QaQ _ _ _ _ _ _ (by decide) (Qf4 _))) <| Qab (.int .u32 (wv S0.d)) 15 rfl kj (Qai (u:=.int .u32 (IntKind.u32.wrap (nth Qam 3/4294967296))) kj (congrArg (Value.int .u32) (show IntKind.u32.wrap (nth Qam 3/4294967296)=wv S0.d by decide +kernel))) <| sg 3 kj <| Qaj g4 _ (cat [ints .u32 ([(wv S0.a),(wv S0.b),(wv S0.c),(wv S0.d),0,0,0,0]),ints .u8 (List.replicate 64 0),#[.int .i64 0]]) 129 r4_4 rfl kj (Qbh 113 _ _ g4 3 129 [] [ints .u8 (List.replicate 64 0),#[.int .i64 0]] ([(wv S0.a),(wv S0.b),(wv S0.c),0,0,0,0,0]) 0 3 _ r4_4 rfl kj kj kj kj rfl (Nat.lt_of_lt_of_eq (show 3<8 by decide) rfl.symm)) fun W5 p5 r4_5=>Qak <| hK21 _ _ <| sgA kj ?_
  show Code.rounds _ _ _ 5 _ _
  show Code.wp _ _ (Exit.then (Code.rounds _ _ _ 4) _) _ _
  refine sgB kj <| sgT kj <| wp_seq_k fun K25 hK25=>wp_block <| sgC fun K26 hK26=>sg 1 kj <| Qab (.int .u64 (nth Qam 4)) 10 rfl kj (QaF 130 _ _ .i64 .u64 (Qam) 4 8 77 (nth Qam 4) rfl kj kj kj kj kj (show Qam.length=8 from rfl) (by decide) rfl) <| sg 2 kj <| sgN hK26 <| Qaf ?_
  refine sg 3 kj <| Qab (.int .u64 (nth Qam 4/4294967296)) 14 rfl kj (Qa1 .shr _ _ _ _ .u64 .u64 _ _ _ rfl kj kj (QaQ _ _ _ _ _ _ (by decide) (Qf4 _))) <| Qab (.int .u32 (wv S0.e)) 15 rfl kj (Qai (u:=.int .u32 (IntKind.u32.wrap (nth Qam 4/4294967296))) kj (congrArg (Value.int .u32) (show IntKind.u32.wrap (nth Qam 4/4294967296)=wv S0.e by decide +kernel))) <| sg 3 kj <| Qaj g4 _ (cat [ints .u32 ([(wv S0.a),(wv S0.b),(wv S0.c),(wv S0.d),(wv S0.e),0,0,0]),ints .u8 (List.replicate 64 0),#[.int .i64 0]]) 129 r4_5 rfl kj (Qbh 113 _ _ g4 4 129 [] [ints .u8 (List.replicate 64 0),#[.int .i64 0]] ([(wv S0.a),(wv S0.b),(wv S0.c),(wv S0.d),0,0,0,0]) 0 4 _ r4_5 rfl kj kj kj kj rfl (Nat.lt_of_lt_of_eq (show 4<8 by decide) rfl.symm)) fun W6 p6 r4_6=>Qak <| hK25 _ _ <| sgA kj ?_
  show Code.rounds _ _ _ 4 _ _
  show Code.wp _ _ (Exit.then (Code.rounds _ _ _ 3) _) _ _
  refine sgB kj <| sgT kj <| wp_seq_k fun K29 hK29=>wp_block <| sgC fun K30 hK30=>sg 1 kj <| Qab (.int .u64 (nth Qam 5)) 10 rfl kj (QaF 130 _ _ .i64 .u64 (Qam) 5 8 77 (nth Qam 5) rfl kj kj kj kj kj (show Qam.length=8 from rfl) (by decide) rfl) <| sg 2 kj <| sgN hK30 <| Qaf ?_
  refine sg 3 kj <| Qab (.int .u64 (nth Qam 5/4294967296)) 14 rfl kj (Qa1 .shr _ _ _ _ .u64 .u64 _ _ _ rfl kj kj (QaQ _ _ _ _ _ _ (by decide) (Qf4 _))) <| Qab (.int .u32 (wv S0.f)) 15 rfl kj (Qai (u:=.int .u32 (IntKind.u32.wrap (nth Qam 5/4294967296))) kj (congrArg (Value.int .u32) (show IntKind.u32.wrap (nth Qam 5/4294967296)=wv S0.f by decide +kernel))) <| sg 3 kj <| Qaj g4 _ (cat [ints .u32 ([(wv S0.a),(wv S0.b),(wv S0.c),(wv S0.d),(wv S0.e),(wv S0.f),0,0]),ints .u8 (List.replicate 64 0),#[.int .i64 0]]) 129 r4_6 rfl kj (Qbh 113 _ _ g4 5 129 [] [ints .u8 (List.replicate 64 0),#[.int .i64 0]] ([(wv S0.a),(wv S0.b),(wv S0.c),(wv S0.d),(wv S0.e),0,0,0]) 0 5 _ r4_6 rfl kj kj kj kj rfl (Nat.lt_of_lt_of_eq (show 5<8 by decide) rfl.symm)) fun W7 p7 r4_7=>Qak <| hK29 _ _ <| sgA kj ?_
  show Code.rounds _ _ _ 3 _ _
  show Code.wp _ _ (Exit.then (Code.rounds _ _ _ 2) _) _ _
  refine sgB kj <| sgT kj <| wp_seq_k fun K33 hK33=>wp_block <| sgC fun K34 hK34=>sg 1 kj <| Qab (.int .u64 (nth Qam 6)) 10 rfl kj (QaF 130 _ _ .i64 .u64 (Qam) 6 8 77 (nth Qam 6) rfl kj kj kj kj kj (show Qam.length=8 from rfl) (by decide) rfl) <| sg 2 kj <| sgN hK34 <| Qaf ?_
  refine sg 3 kj <| Qab (.int .u64 (nth Qam 6/4294967296)) 14 rfl kj (Qa1 .shr _ _ _ _ .u64 .u64 _ _ _ rfl kj kj (QaQ _ _ _ _ _ _ (by decide) (Qf4 _))) <| Qab (.int .u32 (wv S0.g)) 15 rfl kj (Qai (u:=.int .u32 (IntKind.u32.wrap (nth Qam 6/4294967296))) kj (congrArg (Value.int .u32) (show IntKind.u32.wrap (nth Qam 6/4294967296)=wv S0.g by decide +kernel))) <| sg 3 kj <| Qaj g4 _ (cat [ints .u32 ([(wv S0.a),(wv S0.b),(wv S0.c),(wv S0.d),(wv S0.e),(wv S0.f),(wv S0.g),0]),ints .u8 (List.replicate 64 0),#[.int .i64 0]]) 129 r4_7 rfl kj (Qbh 113 _ _ g4 6 129 [] [ints .u8 (List.replicate 64 0),#[.int .i64 0]] ([(wv S0.a),(wv S0.b),(wv S0.c),(wv S0.d),(wv S0.e),(wv S0.f),0,0]) 0 6 _ r4_7 rfl kj kj kj kj rfl (Nat.lt_of_lt_of_eq (show 6<8 by decide) rfl.symm)) fun W8 p8 r4_8=>Qak <| hK33 _ _ <| sgA kj ?_
  show Code.rounds _ _ _ 2 _ _
  show Code.wp _ _ (Exit.then (Code.rounds _ _ _ 1) _) _ _
  refine sgB kj <| sgT kj <| wp_seq_k fun K37 hK37=>wp_block <| sgC fun K38 hK38=>sg 1 kj <| Qab (.int .u64 (nth Qam 7)) 10 rfl kj (QaF 130 _ _ .i64 .u64 (Qam) 7 8 77 (nth Qam 7) rfl kj kj kj kj kj (show Qam.length=8 from rfl) (by decide) rfl) <| sg 2 kj <| sgN hK38 <| Qaf ?_
  refine sg 3 kj <| Qab (.int .u64 (nth Qam 7/4294967296)) 14 rfl kj (Qa1 .shr _ _ _ _ .u64 .u64 _ _ _ rfl kj kj (QaQ _ _ _ _ _ _ (by decide) (Qf4 _))) <| Qab (.int .u32 (wv S0.h)) 15 rfl kj (Qai (u:=.int .u32 (IntKind.u32.wrap (nth Qam 7/4294967296))) kj (congrArg (Value.int .u32) (show IntKind.u32.wrap (nth Qam 7/4294967296)=wv S0.h by decide +kernel))) <| sg 3 kj <| Qaj g4 _ (cat [ints .u32 ([(wv S0.a),(wv S0.b),(wv S0.c),(wv S0.d),(wv S0.e),(wv S0.f),(wv S0.g),(wv S0.h)]),ints .u8 (List.replicate 64 0),#[.int .i64 0]]) 129 r4_8 rfl kj (Qbh 113 _ _ g4 7 129 [] [ints .u8 (List.replicate 64 0),#[.int .i64 0]] ([(wv S0.a),(wv S0.b),(wv S0.c),(wv S0.d),(wv S0.e),(wv S0.f),(wv S0.g),0]) 0 7 _ r4_8 rfl kj kj kj kj rfl (Nat.lt_of_lt_of_eq (show 7<8 by decide) rfl.symm)) fun W9 p9 r4_9=>Qak <| hK37 _ _ <| sgA kj ?_
  show Code.rounds _ _ _ 1 _ _
  show Code.wp _ _ (Exit.then (Code.rounds _ _ _ 0) _) _ _
  refine sgB kj <| wp_seq_k fun K40 hK40=>cond_false kj <| wp_exit <| hK5 _ _ <| sgB kj <| wp_ret ?_
  repeat (first | with_reducible refine goR1 ?_ | with_reducible refine goR2 ?_)
  exact (show bodyPost _ _ _ .ret _ _ from ret1 (.pointer (some ⟨g4,0,none⟩)) rfl (Qa2 kj) ⟨_,rfl,(Puts.ext p9 (Puts.ext p8 (Puts.ext p7 (Puts.ext p6 (Puts.ext p5 (Puts.ext p4 (Puts.ext p3 (Puts.ext p2 (Ext.tr (Rely.Ext.refl w) e1) b4) b4) b4) b4) b4) b4) b4) b4),_,rfl,b4,List.replicate 64 0,List.length_replicate,QeY 64,rfl,Nat.zero_le _,r4_9⟩)
end Go.Proofs.YtibegnjaphohaaaDoor.Sha
end
section
namespace Go.Proofs.YtibegnjaphohaaaDoor.Sha
open Go Go.RowKit
open Rely Auto Own
theorem Qmm (x : Int):IntKind.u8.wrap x=x%256:=by
  have:IntKind.u8.wrap x=x%2^8:=rfl
  rw [this]; rfl
theorem QaO (x : Wd) (n d:Nat) (h:2^n=d):IntKind.u8.wrap (wv (x>>>n))=((x.toNat/d%256:Nat):Int):=by
  subst h
  rw [Qmm]; unfold wv; rw [BitVec.toNat_ushiftRight,Nat.shiftRight_eq_div_pow]; omega
theorem Qe8 (n : Nat):Qat (Qep n):=fun x hx=>by
  unfold Qep at hx
  rcases List.mem_cons.1 hx with h | h
  · omega
  · rcases List.mem_append.1 h with h | h
    · exact QeY _ x h
    · simp only [be8,List.mem_cons,List.not_mem_nil,or_false] at h
      rcases h with h | h | h | h | h | h | h | h <;> omega
set_option maxHeartbeats 8000000 in
theorem sumC (g : Nat) (t:List Int) (tc:TypeId) (w:World) (hc:w.heap[2]? = some (.cells (ints .u64 QaN) tc)) (hlen:t.length≤900000000) (hd:HasD g t w):Calls Tryd.prog 72 #[.pointer (some ⟨g,0,none⟩)] w (Ret w (.agg (ints .u8 (dig t)))):=by
  obtain ⟨b,hbl,hbb,hbp,hmany,hrow⟩:=hd
  obtain ⟨s,hs⟩:∃ z,z=absorb S0 t (t.length/64):=⟨_,rfl⟩
  rw [←hs] at hrow
  replace hrow:w.heap[g]? = some (.cells (cat [ints .u32 ([wv s.a,wv s.b,wv s.c,wv s.d,wv s.e,wv s.f,wv s.g,wv s.h]),ints .u8 (b),#[.int .i64 ((t.length:Nat):Int)]]) 129):=hrow
  refine enter 43 [(0,.pointer (some ⟨g,0,none⟩))] Tryd.func72 rfl rfl kj rfl <| sgC fun K3 hK3=>Qap (ints .u8 ([0,0,0,0,0,0,0,0,0,0,0,0,0,0,0,0,0,0,0,0,0,0,0,0,0,0,0,0,0,0,0,0])) 23 2 rfl kj kj fun g4 W1 l4 e1 r4_1=>?_
  have x1:=Ext.tr (Rely.Ext.refl w) e1
  refine sgN hK3 <| sgC fun K5 hK5=>Qap (ints .u8 ([0,0,0,0,0,0,0,0,0,0,0,0,0,0,0,0,0,0,0,0,0,0,0,0,0,0,0,0,0,0,0,0])) 23 3 rfl kj kj fun g6 W2 l6 e2 r6_2=>?_
  have x2:=Ext.tr x1 e2
  have b6:=qT x1.size l6
  refine sgN hK5 <| wp_seq_k fun K7 hK7=>sgB kj <| cond_false kj <| wp_skip <| hK7 _ _ <| sgC fun K9 hK9=>sg 2 kj ?_
  have r2_2:=(Qac (Qac hrow e1) e2)
  refine Qab (.agg (cat [ints .u32 ([wv s.a,wv s.b,wv s.c,wv s.d,wv s.e,wv s.f,wv s.g,wv s.h]),ints .u8 (b),#[.int .i64 ((t.length:Nat):Int)]])) 13 rfl kj (Qaq 129 _ g 129 _ _ r2_2 rfl kj kj (isz (n:=73) kj (by rw [Qaa,Qaa,Qaa]; simp only [qS,cat,((Qad _ _).trans hbl)]; rfl))) ?_
  refine Qap (cat [ints .u32 ([0,0,0,0,0,0,0,0]),ints .u8 (List.replicate 64 0),#[.int .i64 0]]) 129 4 rfl kj kj fun g10 W3 l10 e3 r10_3=>?_
  have b10:=qT x2.size l10
  refine Qaj g10 _ (cat [ints .u32 ([wv s.a,wv s.b,wv s.c,wv s.d,wv s.e,wv s.f,wv s.g,wv s.h]),ints .u8 (b),#[.int .i64 ((t.length:Nat):Int)]]) 129 r10_3 rfl kj (Qal 129 _ _ g10 129 _ _ r10_3 rfl kj kj (isz (n:=73) kj (by rw [Qaa,Qaa,Qaa]; simp only [qS,cat,((Qad _ _).trans hbl)]; rfl)) (eqsz (n:=73) (by rw [Qaa,Qaa,Qaa]; simp only [qS,cat,((Qad _ _).trans (List.length_replicate (n:=64)))]; rfl) (by rw [Qaa,Qaa,Qaa]; simp only [qS,cat,((Qad _ _).trans hbl)]; rfl)) (QaD _ (by intro a ha; simp only [List.mem_cons,List.not_mem_nil,or_false] at ha; rcases ha with rfl | rfl | rfl; exact (Qau _ _); exact (Qau _ _); exact (Qan _ rfl)))) fun W4 p4 r10_4=>?_
  refine sgN hK9 <| sgC fun K11 hK11=>sg 3 kj <| Qab (.int .i64 ((t.length:Nat):Int)) 17 rfl kj (Qag 3 _ g 72 129 _ (.int .i64 ((t.length:Nat):Int)) _ (Puts.row p4 (Qac r2_2 e3) (Qae r2_2 l10)) rfl kj (Qaw [ints .u32 ([wv s.a,wv s.b,wv s.c,wv s.d,wv s.e,wv s.f,wv s.g,wv s.h]),ints .u8 (b)] [#[.int .i64 ((t.length:Nat):Int)]] [] 72 (by rw [Qaa,Qaa]; simp only [qS,cat,((Qad _ _).trans hbl)]; rfl) 0 _ rfl) kj) ?_
  refine Qa6 (fun v W'=>(OwnN .u8 5 W4.heap.size (Qep t.length)) v W'∧Ext W4 W') 75 #[.int .i64 ((t.length:Nat):Int),.int .i64 64,.int .i64 8] 18 rfl kj kj ((QjP t.length (by omega) _).mono (by rintro e w' ⟨v,rfl,e1,hv⟩; exact ⟨v,rfl,hv,e1⟩)) fun vv12 W5 hh12=>?_
  obtain ⟨hv12,e5⟩:=hh12
  have r1_2:=(Qac (Qac hc e1) e2)
  have hd4:HasD g10 t W5:=⟨b,hbl,hbb,hbp,hmany,by rw [←hs]; exact (Qac r10_4 e5)⟩
  have hp4:=hv12
  have hfl:QaZ t.length<64:=by unfold QaZ; omega
  have hpl:t.length+(Qep t.length).length≤1000000000:=by rw [QdC]; omega
  refine Qa6 (fun v W'=>v=.tuple #[]∧ExtB g10 W5 W'∧HasD g10 (t++Qep t.length) W') 71 #[.pointer (some ⟨g10,0,none⟩),vv12] 19 rfl kj kj ((addC g10 _ t (Qep t.length) _ tc _ (Qac (Puts.row p4 (Qac r1_2 e3) (Qae r1_2 l10)) e5) (Qae r1_2 l10) (.inr (hp4.nb (Qay r10_4))) (Qe8 _) hpl hd4 (OwnN.rd hp4)).mono fun e w' h=>⟨_,h.1,rfl,h.2⟩) fun v W6 h=>?_
  obtain ⟨rfl,q6,hD5⟩:=h
  obtain ⟨b5,hbl5,hbb5,-,-,hrow5⟩:=hD5
  obtain ⟨s5,hs5⟩:∃ z,z=absorb S0 (padT t) ((padT t).length/64):=⟨_,rfl⟩
  rw [show t++Qep t.length=padT t from rfl,←hs5] at hrow5
  replace hrow5:W6.heap[g10]? = some (.cells (cat [ints .u32 ([wv s5.a,wv s5.b,wv s5.c,wv s5.d,wv s5.e,wv s5.f,wv s5.g,wv s5.h]),ints .u8 (b5),#[.int .i64 (((padT t).length:Nat):Int)]]) 129):=hrow5
  refine sgN hK11 <| wp_seq_k fun K13 hK13=>sgC fun K14 hK14=>sg 1 kj <| Qab (.agg (ints .u32 ([wv s5.a,wv s5.b,wv s5.c,wv s5.d,wv s5.e,wv s5.f,wv s5.g,wv s5.h]))) 21 rfl kj (QaK 114 _ g10 0 129 _ _ _ hrow5 rfl kj (Qaw [] [ints .u32 ([wv s5.a,wv s5.b,wv s5.c,wv s5.d,wv s5.e,wv s5.f,wv s5.g,wv s5.h])] [ints .u8 (b5),#[.int .i64 (((padT t).length:Nat):Int)]] 0 kj) kj (isz (n:=8) kj kj)) <| sg 1 kj <| sgN hK14 <| wp_block <| wp_loop_rounds 9 ?_
  show Code.wp _ _ (Exit.then (Code.rounds _ _ _ 8) _) _ _
  refine sgB kj <| sgT kj <| wp_seq_k fun K17 hK17=>wp_block <| sgC fun K18 hK18=>sg 1 kj <| Qab (.int .u32 (wv s5.a)) 25 rfl kj (QaF 114 _ _ .i64 .u32 ([wv s5.a,wv s5.b,wv s5.c,wv s5.d,wv s5.e,wv s5.f,wv s5.g,wv s5.h]) 0 8 113 (wv s5.a) rfl kj kj kj kj kj rfl (by decide) rfl) <| sg 2 kj <| sgN hK18 <| sgB kj ?_
  refine wp_block <| wp_loop_rounds 5 ?_
  show Code.wp _ _ (Exit.then (Code.rounds _ _ _ 4) _) _ _
  refine sgB kj <| sgT kj <| wp_seq_k fun K22 hK22=>wp_block <| sgB kj <| Qaf <| sg 8 kj <| Qab (.int .u32 (wv ((s5.a)>>>24))) 37 rfl kj (Qa1 .shr _ _ _ _ .u32 .i64 _ _ _ rfl kj kj (QaQ _ _ _ _ _ _ (by decide) (Qba _ _ 24 rfl (by decide)))) <| Qab (.int .u8 (db s5.a 16777216)) 38 rfl kj (Qai kj (congrArg (Value.int .u8) (QaO s5.a 24 16777216 (by decide)))) <| sg 1 kj ?_
  have r6_6:=(ExtB.row q6 (Qac (Puts.row p4 (Qac r6_2 e3) (Qae r6_2 l10)) e5) (Qae r6_2 l10))
  refine Qaj g6 _ (ints .u8 ([(db s5.a 16777216),0,0,0,0,0,0,0,0,0,0,0,0,0,0,0,0,0,0,0,0,0,0,0,0,0,0,0,0,0,0,0])) 23 r6_6 rfl kj (Qao 5 _ _ g6 0 23 _ _ r6_6 rfl kj kj kj (show 0<32 by decide)) fun W7 p7 r6_7=>Qak <| hK22 _ _ <| sgA kj ?_
  show Code.rounds _ _ _ 4 _ _
  show Code.wp _ _ (Exit.then (Code.rounds _ _ _ 3) _) _ _
  refine sgB kj <| sgT kj <| wp_seq_k fun K26 hK26=>wp_block <| sgB kj <| Qaf <| sg 8 kj <| Qab (.int .u32 (wv ((s5.a)>>>16))) 37 rfl kj (Qa1 .shr _ _ _ _ .u32 .i64 _ _ _ rfl kj kj (QaQ _ _ _ _ _ _ (by decide) (Qba _ _ 16 rfl (by decide)))) <| Qab (.int .u8 (db s5.a 65536)) 38 rfl kj (Qai kj (congrArg (Value.int .u8) (QaO s5.a 16 65536 (by decide)))) <| sg 1 kj ?_
  refine Qaj g6 _ (ints .u8 ([(db s5.a 16777216),(db s5.a 65536),0,0,0,0,0,0,0,0,0,0,0,0,0,0,0,0,0,0,0,0,0,0,0,0,0,0,0,0,0,0])) 23 r6_7 rfl kj (Qao 5 _ _ g6 1 23 _ _ r6_7 rfl kj kj kj (show 1<32 by decide)) fun W8 p8 r6_8=>Qak <| hK26 _ _ <| sgA kj ?_
  show Code.rounds _ _ _ 3 _ _
  show Code.wp _ _ (Exit.then (Code.rounds _ _ _ 2) _) _ _
  refine sgB kj <| sgT kj <| wp_seq_k fun K30 hK30=>wp_block <| sgB kj <| Qaf <| sg 8 kj <| Qab (.int .u32 (wv ((s5.a)>>>8))) 37 rfl kj (Qa1 .shr _ _ _ _ .u32 .i64 _ _ _ rfl kj kj (QaQ _ _ _ _ _ _ (by decide) (Qba _ _ 8 rfl (by decide)))) <| Qab (.int .u8 (db s5.a 256)) 38 rfl kj (Qai kj (congrArg (Value.int .u8) (QaO s5.a 8 256 (by decide)))) <| sg 1 kj ?_
  refine Qaj g6 _ (ints .u8 ([(db s5.a 16777216),(db s5.a 65536),(db s5.a 256),0,0,0,0,0,0,0,0,0,0,0,0,0,0,0,0,0,0,0,0,0,0,0,0,0,0,0,0,0])) 23 r6_8 rfl kj (Qao 5 _ _ g6 2 23 _ _ r6_8 rfl kj kj kj (show 2<32 by decide)) fun W9 p9 r6_9=>Qak <| hK30 _ _ <| sgA kj ?_
  show Code.rounds _ _ _ 2 _ _
  show Code.wp _ _ (Exit.then (Code.rounds _ _ _ 1) _) _ _
  refine sgB kj <| sgT kj <| wp_seq_k fun K34 hK34=>wp_block <| sgB kj <| Qaf <| sg 8 kj <| Qab (.int .u32 (wv ((s5.a)>>>0))) 37 rfl kj (Qa1 .shr _ _ _ _ .u32 .i64 _ _ _ rfl kj kj (QaQ _ _ _ _ _ _ (by decide) (Qba _ _ 0 rfl (by decide)))) <| Qab (.int .u8 (db s5.a 1)) 38 rfl kj (Qai kj (congrArg (Value.int .u8) (QaO s5.a 0 1 (by decide)))) <| sg 1 kj ?_
  refine Qaj g6 _ (ints .u8 ([(db s5.a 16777216),(db s5.a 65536),(db s5.a 256),(db s5.a 1),0,0,0,0,0,0,0,0,0,0,0,0,0,0,0,0,0,0,0,0,0,0,0,0,0,0,0,0])) 23 r6_9 rfl kj (Qao 5 _ _ g6 3 23 _ _ r6_9 rfl kj kj kj (show 3<32 by decide)) fun W10 p10 r6_10=>Qak <| hK34 _ _ <| sgA kj ?_
  show Code.rounds _ _ _ 1 _ _
  show Code.wp _ _ (Exit.then (Code.rounds _ _ _ 0) _) _ _
  refine sgB kj <| wp_seq_k fun K37 hK37=>cond_false kj <| wp_exit <| hK17 _ _ <| sgA kj ?_
  show Code.rounds _ _ _ 8 _ _
  show Code.wp _ _ (Exit.then (Code.rounds _ _ _ 7) _) _ _
  refine sgB kj <| sgT kj <| wp_seq_k fun K40 hK40=>wp_block <| sgC fun K41 hK41=>sg 1 kj <| Qab (.int .u32 (wv s5.b)) 25 rfl kj (QaF 114 _ _ .i64 .u32 ([wv s5.a,wv s5.b,wv s5.c,wv s5.d,wv s5.e,wv s5.f,wv s5.g,wv s5.h]) 1 8 113 (wv s5.b) rfl kj kj kj kj kj rfl (by decide) rfl) <| sg 2 kj <| sgN hK41 <| sgB kj ?_
  refine wp_block <| wp_loop_rounds 5 ?_
  show Code.wp _ _ (Exit.then (Code.rounds _ _ _ 4) _) _ _
  refine sgB kj <| sgT kj <| wp_seq_k fun K45 hK45=>wp_block <| sgB kj <| Qaf <| sg 8 kj <| Qab (.int .u32 (wv ((s5.b)>>>24))) 37 rfl kj (Qa1 .shr _ _ _ _ .u32 .i64 _ _ _ rfl kj kj (QaQ _ _ _ _ _ _ (by decide) (Qba _ _ 24 rfl (by decide)))) <| Qab (.int .u8 (db s5.b 16777216)) 38 rfl kj (Qai kj (congrArg (Value.int .u8) (QaO s5.b 24 16777216 (by decide)))) <| sg 1 kj ?_
  refine Qaj g6 _ (ints .u8 ([(db s5.a 16777216),(db s5.a 65536),(db s5.a 256),(db s5.a 1),(db s5.b 16777216),0,0,0,0,0,0,0,0,0,0,0,0,0,0,0,0,0,0,0,0,0,0,0,0,0,0,0])) 23 r6_10 rfl kj (Qao 5 _ _ g6 4 23 _ _ r6_10 rfl kj kj kj (show 4<32 by decide)) fun W11 p11 r6_11=>Qak <| hK45 _ _ <| sgA kj ?_
  show Code.rounds _ _ _ 4 _ _
  show Code.wp _ _ (Exit.then (Code.rounds _ _ _ 3) _) _ _
  refine sgB kj <| sgT kj <| wp_seq_k fun K49 hK49=>wp_block <| sgB kj <| Qaf <| sg 8 kj <| Qab (.int .u32 (wv ((s5.b)>>>16))) 37 rfl kj (Qa1 .shr _ _ _ _ .u32 .i64 _ _ _ rfl kj kj (QaQ _ _ _ _ _ _ (by decide) (Qba _ _ 16 rfl (by decide)))) <| Qab (.int .u8 (db s5.b 65536)) 38 rfl kj (Qai kj (congrArg (Value.int .u8) (QaO s5.b 16 65536 (by decide)))) <| sg 1 kj ?_
  refine Qaj g6 _ (ints .u8 ([(db s5.a 16777216),(db s5.a 65536),(db s5.a 256),(db s5.a 1),(db s5.b 16777216),(db s5.b 65536),0,0,0,0,0,0,0,0,0,0,0,0,0,0,0,0,0,0,0,0,0,0,0,0,0,0])) 23 r6_11 rfl kj (Qao 5 _ _ g6 5 23 _ _ r6_11 rfl kj kj kj (show 5<32 by decide)) fun W12 p12 r6_12=>Qak <| hK49 _ _ <| sgA kj ?_
  show Code.rounds _ _ _ 3 _ _
  show Code.wp _ _ (Exit.then (Code.rounds _ _ _ 2) _) _ _
  refine sgB kj <| sgT kj <| wp_seq_k fun K53 hK53=>wp_block <| sgB kj <| Qaf <| sg 8 kj <| Qab (.int .u32 (wv ((s5.b)>>>8))) 37 rfl kj (Qa1 .shr _ _ _ _ .u32 .i64 _ _ _ rfl kj kj (QaQ _ _ _ _ _ _ (by decide) (Qba _ _ 8 rfl (by decide)))) <| Qab (.int .u8 (db s5.b 256)) 38 rfl kj (Qai kj (congrArg (Value.int .u8) (QaO s5.b 8 256 (by decide)))) <| sg 1 kj ?_
  refine Qaj g6 _ (ints .u8 ([(db s5.a 16777216),(db s5.a 65536),(db s5.a 256),(db s5.a 1),(db s5.b 16777216),(db s5.b 65536),(db s5.b 256),0,0,0,0,0,0,0,0,0,0,0,0,0,0,0,0,0,0,0,0,0,0,0,0,0])) 23 r6_12 rfl kj (Qao 5 _ _ g6 6 23 _ _ r6_12 rfl kj kj kj (show 6<32 by decide)) fun W13 p13 r6_13=>Qak <| hK53 _ _ <| sgA kj ?_
  show Code.rounds _ _ _ 2 _ _
  show Code.wp _ _ (Exit.then (Code.rounds _ _ _ 1) _) _ _
  refine sgB kj <| sgT kj <| wp_seq_k fun K57 hK57=>wp_block <| sgB kj <| Qaf <| sg 8 kj <| Qab (.int .u32 (wv ((s5.b)>>>0))) 37 rfl kj (Qa1 .shr _ _ _ _ .u32 .i64 _ _ _ rfl kj kj (QaQ _ _ _ _ _ _ (by decide) (Qba _ _ 0 rfl (by decide)))) <| Qab (.int .u8 (db s5.b 1)) 38 rfl kj (Qai kj (congrArg (Value.int .u8) (QaO s5.b 0 1 (by decide)))) <| sg 1 kj ?_
  refine Qaj g6 _ (ints .u8 ([(db s5.a 16777216),(db s5.a 65536),(db s5.a 256),(db s5.a 1),(db s5.b 16777216),(db s5.b 65536),(db s5.b 256),(db s5.b 1),0,0,0,0,0,0,0,0,0,0,0,0,0,0,0,0,0,0,0,0,0,0,0,0])) 23 r6_13 rfl kj (Qao 5 _ _ g6 7 23 _ _ r6_13 rfl kj kj kj (show 7<32 by decide)) fun W14 p14 r6_14=>Qak <| hK57 _ _ <| sgA kj ?_
  show Code.rounds _ _ _ 1 _ _
  show Code.wp _ _ (Exit.then (Code.rounds _ _ _ 0) _) _ _
  refine sgB kj <| wp_seq_k fun K60 hK60=>cond_false kj <| wp_exit <| hK40 _ _ <| sgA kj ?_
  show Code.rounds _ _ _ 7 _ _
  show Code.wp _ _ (Exit.then (Code.rounds _ _ _ 6) _) _ _
  refine sgB kj <| sgT kj <| wp_seq_k fun K63 hK63=>wp_block <| sgC fun K64 hK64=>sg 1 kj <| Qab (.int .u32 (wv s5.c)) 25 rfl kj (QaF 114 _ _ .i64 .u32 ([wv s5.a,wv s5.b,wv s5.c,wv s5.d,wv s5.e,wv s5.f,wv s5.g,wv s5.h]) 2 8 113 (wv s5.c) rfl kj kj kj kj kj rfl (by decide) rfl) <| sg 2 kj <| sgN hK64 <| sgB kj ?_
  refine wp_block <| wp_loop_rounds 5 ?_
  show Code.wp _ _ (Exit.then (Code.rounds _ _ _ 4) _) _ _
  refine sgB kj <| sgT kj <| wp_seq_k fun K68 hK68=>wp_block <| sgB kj <| Qaf <| sg 8 kj <| Qab (.int .u32 (wv ((s5.c)>>>24))) 37 rfl kj (Qa1 .shr _ _ _ _ .u32 .i64 _ _ _ rfl kj kj (QaQ _ _ _ _ _ _ (by decide) (Qba _ _ 24 rfl (by decide)))) <| Qab (.int .u8 (db s5.c 16777216)) 38 rfl kj (Qai kj (congrArg (Value.int .u8) (QaO s5.c 24 16777216 (by decide)))) <| sg 1 kj ?_
  refine Qaj g6 _ (ints .u8 ([(db s5.a 16777216),(db s5.a 65536),(db s5.a 256),(db s5.a 1),(db s5.b 16777216),(db s5.b 65536),(db s5.b 256),(db s5.b 1),(db s5.c 16777216),0,0,0,0,0,0,0,0,0,0,0,0,0,0,0,0,0,0,0,0,0,0,0])) 23 r6_14 rfl kj (Qao 5 _ _ g6 8 23 _ _ r6_14 rfl kj kj kj (show 8<32 by decide)) fun W15 p15 r6_15=>Qak <| hK68 _ _ <| sgA kj ?_
  show Code.rounds _ _ _ 4 _ _
  show Code.wp _ _ (Exit.then (Code.rounds _ _ _ 3) _) _ _
  refine sgB kj <| sgT kj <| wp_seq_k fun K72 hK72=>wp_block <| sgB kj <| Qaf <| sg 8 kj <| Qab (.int .u32 (wv ((s5.c)>>>16))) 37 rfl kj (Qa1 .shr _ _ _ _ .u32 .i64 _ _ _ rfl kj kj (QaQ _ _ _ _ _ _ (by decide) (Qba _ _ 16 rfl (by decide)))) <| Qab (.int .u8 (db s5.c 65536)) 38 rfl kj (Qai kj (congrArg (Value.int .u8) (QaO s5.c 16 65536 (by decide)))) <| sg 1 kj ?_
  refine Qaj g6 _ (ints .u8 ([(db s5.a 16777216),(db s5.a 65536),(db s5.a 256),(db s5.a 1),(db s5.b 16777216),(db s5.b 65536),(db s5.b 256),(db s5.b 1),(db s5.c 16777216),(db s5.c 65536),0,0,0,0,0,0,0,0,0,0,0,0,0,0,0,0,0,0,0,0,0,0])) 23 r6_15 rfl kj (Qao 5 _ _ g6 9 23 _ _ r6_15 rfl kj kj kj (show 9<32 by decide)) fun W16 p16 r6_16=>Qak <| hK72 _ _ <| sgA kj ?_
  show Code.rounds _ _ _ 3 _ _
  show Code.wp _ _ (Exit.then (Code.rounds _ _ _ 2) _) _ _
  refine sgB kj <| sgT kj <| wp_seq_k fun K76 hK76=>wp_block <| sgB kj <| Qaf <| sg 8 kj <| Qab (.int .u32 (wv ((s5.c)>>>8))) 37 rfl kj (Qa1 .shr _ _ _ _ .u32 .i64 _ _ _ rfl kj kj (QaQ _ _ _ _ _ _ (by decide) (Qba _ _ 8 rfl (by decide)))) <| Qab (.int .u8 (db s5.c 256)) 38 rfl kj (Qai kj (congrArg (Value.int .u8) (QaO s5.c 8 256 (by decide)))) <| sg 1 kj ?_
  refine Qaj g6 _ (ints .u8 ([(db s5.a 16777216),(db s5.a 65536),(db s5.a 256),(db s5.a 1),(db s5.b 16777216),(db s5.b 65536),(db s5.b 256),(db s5.b 1),(db s5.c 16777216),(db s5.c 65536),(db s5.c 256),0,0,0,0,0,0,0,0,0,0,0,0,0,0,0,0,0,0,0,0,0])) 23 r6_16 rfl kj (Qao 5 _ _ g6 10 23 _ _ r6_16 rfl kj kj kj (show 10<32 by decide)) fun W17 p17 r6_17=>Qak <| hK76 _ _ <| sgA kj ?_
  show Code.rounds _ _ _ 2 _ _
  show Code.wp _ _ (Exit.then (Code.rounds _ _ _ 1) _) _ _
  refine sgB kj <| sgT kj <| wp_seq_k fun K80 hK80=>wp_block <| sgB kj <| Qaf <| sg 8 kj <| Qab (.int .u32 (wv ((s5.c)>>>0))) 37 rfl kj (Qa1 .shr _ _ _ _ .u32 .i64 _ _ _ rfl kj kj (QaQ _ _ _ _ _ _ (by decide) (Qba _ _ 0 rfl (by decide)))) <| Qab (.int .u8 (db s5.c 1)) 38 rfl kj (Qai kj (congrArg (Value.int .u8) (QaO s5.c 0 1 (by decide)))) <| sg 1 kj ?_
  refine Qaj g6 _ (ints .u8 ([(db s5.a 16777216),(db s5.a 65536),(db s5.a 256),(db s5.a 1),(db s5.b 16777216),(db s5.b 65536),(db s5.b 256),(db s5.b 1),(db s5.c 16777216),(db s5.c 65536),(db s5.c 256),(db s5.c 1),0,0,0,0,0,0,0,0,0,0,0,0,0,0,0,0,0,0,0,0])) 23 r6_17 rfl kj (Qao 5 _ _ g6 11 23 _ _ r6_17 rfl kj kj kj (show 11<32 by decide)) fun W18 p18 r6_18=>Qak <| hK80 _ _ <| sgA kj ?_
  show Code.rounds _ _ _ 1 _ _
  show Code.wp _ _ (Exit.then (Code.rounds _ _ _ 0) _) _ _
  refine sgB kj <| wp_seq_k fun K83 hK83=>cond_false kj <| wp_exit <| hK63 _ _ <| sgA kj ?_
  show Code.rounds _ _ _ 6 _ _
  show Code.wp _ _ (Exit.then (Code.rounds _ _ _ 5) _) _ _
  refine sgB kj <| sgT kj <| wp_seq_k fun K86 hK86=>wp_block <| sgC fun K87 hK87=>sg 1 kj <| Qab (.int .u32 (wv s5.d)) 25 rfl kj (QaF 114 _ _ .i64 .u32 ([wv s5.a,wv s5.b,wv s5.c,wv s5.d,wv s5.e,wv s5.f,wv s5.g,wv s5.h]) 3 8 113 (wv s5.d) rfl kj kj kj kj kj rfl (by decide) rfl) <| sg 2 kj <| sgN hK87 <| sgB kj ?_
  refine wp_block <| wp_loop_rounds 5 ?_
  show Code.wp _ _ (Exit.then (Code.rounds _ _ _ 4) _) _ _
  refine sgB kj <| sgT kj <| wp_seq_k fun K91 hK91=>wp_block <| sgB kj <| Qaf <| sg 8 kj <| Qab (.int .u32 (wv ((s5.d)>>>24))) 37 rfl kj (Qa1 .shr _ _ _ _ .u32 .i64 _ _ _ rfl kj kj (QaQ _ _ _ _ _ _ (by decide) (Qba _ _ 24 rfl (by decide)))) <| Qab (.int .u8 (db s5.d 16777216)) 38 rfl kj (Qai kj (congrArg (Value.int .u8) (QaO s5.d 24 16777216 (by decide)))) <| sg 1 kj ?_
  refine Qaj g6 _ (ints .u8 ([(db s5.a 16777216),(db s5.a 65536),(db s5.a 256),(db s5.a 1),(db s5.b 16777216),(db s5.b 65536),(db s5.b 256),(db s5.b 1),(db s5.c 16777216),(db s5.c 65536),(db s5.c 256),(db s5.c 1),(db s5.d 16777216),0,0,0,0,0,0,0,0,0,0,0,0,0,0,0,0,0,0,0])) 23 r6_18 rfl kj (Qao 5 _ _ g6 12 23 _ _ r6_18 rfl kj kj kj (show 12<32 by decide)) fun W19 p19 r6_19=>Qak <| hK91 _ _ <| sgA kj ?_
  show Code.rounds _ _ _ 4 _ _
  show Code.wp _ _ (Exit.then (Code.rounds _ _ _ 3) _) _ _
  refine sgB kj <| sgT kj <| wp_seq_k fun K95 hK95=>wp_block <| sgB kj <| Qaf <| sg 8 kj <| Qab (.int .u32 (wv ((s5.d)>>>16))) 37 rfl kj (Qa1 .shr _ _ _ _ .u32 .i64 _ _ _ rfl kj kj (QaQ _ _ _ _ _ _ (by decide) (Qba _ _ 16 rfl (by decide)))) <| Qab (.int .u8 (db s5.d 65536)) 38 rfl kj (Qai kj (congrArg (Value.int .u8) (QaO s5.d 16 65536 (by decide)))) <| sg 1 kj ?_
  refine Qaj g6 _ (ints .u8 ([(db s5.a 16777216),(db s5.a 65536),(db s5.a 256),(db s5.a 1),(db s5.b 16777216),(db s5.b 65536),(db s5.b 256),(db s5.b 1),(db s5.c 16777216),(db s5.c 65536),(db s5.c 256),(db s5.c 1),(db s5.d 16777216),(db s5.d 65536),0,0,0,0,0,0,0,0,0,0,0,0,0,0,0,0,0,0])) 23 r6_19 rfl kj (Qao 5 _ _ g6 13 23 _ _ r6_19 rfl kj kj kj (show 13<32 by decide)) fun W20 p20 r6_20=>Qak <| hK95 _ _ <| sgA kj ?_
  show Code.rounds _ _ _ 3 _ _
  show Code.wp _ _ (Exit.then (Code.rounds _ _ _ 2) _) _ _
  refine sgB kj <| sgT kj <| wp_seq_k fun K99 hK99=>wp_block <| sgB kj <| Qaf <| sg 8 kj <| Qab (.int .u32 (wv ((s5.d)>>>8))) 37 rfl kj (Qa1 .shr _ _ _ _ .u32 .i64 _ _ _ rfl kj kj (QaQ _ _ _ _ _ _ (by decide) (Qba _ _ 8 rfl (by decide)))) <| Qab (.int .u8 (db s5.d 256)) 38 rfl kj (Qai kj (congrArg (Value.int .u8) (QaO s5.d 8 256 (by decide)))) <| sg 1 kj ?_
  refine Qaj g6 _ (ints .u8 ([(db s5.a 16777216),(db s5.a 65536),(db s5.a 256),(db s5.a 1),(db s5.b 16777216),(db s5.b 65536),(db s5.b 256),(db s5.b 1),(db s5.c 16777216),(db s5.c 65536),(db s5.c 256),(db s5.c 1),(db s5.d 16777216),(db s5.d 65536),(db s5.d 256),0,0,0,0,0,0,0,0,0,0,0,0,0,0,0,0,0])) 23 r6_20 rfl kj (Qao 5 _ _ g6 14 23 _ _ r6_20 rfl kj kj kj (show 14<32 by decide)) fun W21 p21 r6_21=>Qak <| hK99 _ _ <| sgA kj ?_
  show Code.rounds _ _ _ 2 _ _
  show Code.wp _ _ (Exit.then (Code.rounds _ _ _ 1) _) _ _
  refine sgB kj <| sgT kj <| wp_seq_k fun K103 hK103=>wp_block <| sgB kj <| Qaf <| sg 8 kj <| Qab (.int .u32 (wv ((s5.d)>>>0))) 37 rfl kj (Qa1 .shr _ _ _ _ .u32 .i64 _ _ _ rfl kj kj (QaQ _ _ _ _ _ _ (by decide) (Qba _ _ 0 rfl (by decide)))) <| Qab (.int .u8 (db s5.d 1)) 38 rfl kj (Qai kj (congrArg (Value.int .u8) (QaO s5.d 0 1 (by decide)))) <| sg 1 kj ?_
  refine Qaj g6 _ (ints .u8 ([(db s5.a 16777216),(db s5.a 65536),(db s5.a 256),(db s5.a 1),(db s5.b 16777216),(db s5.b 65536),(db s5.b 256),(db s5.b 1),(db s5.c 16777216),(db s5.c 65536),(db s5.c 256),(db s5.c 1),(db s5.d 16777216),(db s5.d 65536),(db s5.d 256),(db s5.d 1),0,0,0,0,0,0,0,0,0,0,0,0,0,0,0,0])) 23 r6_21 rfl kj (Qao 5 _ _ g6 15 23 _ _ r6_21 rfl kj kj kj (show 15<32 by decide)) fun W22 p22 r6_22=>Qak <| hK103 _ _ <| sgA kj ?_
  show Code.rounds _ _ _ 1 _ _
  show Code.wp _ _ (Exit.then (Code.rounds _ _ _ 0) _) _ _
  refine sgB kj <| wp_seq_k fun K106 hK106=>cond_false kj <| wp_exit <| hK86 _ _ <| sgA kj ?_
  show Code.rounds _ _ _ 5 _ _
  show Code.wp _ _ (Exit.then (Code.rounds _ _ _ 4) _) _ _
  refine sgB kj <| sgT kj <| wp_seq_k fun K109 hK109=>wp_block <| sgC fun K110 hK110=>sg 1 kj <| Qab (.int .u32 (wv s5.e)) 25 rfl kj (QaF 114 _ _ .i64 .u32 ([wv s5.a,wv s5.b,wv s5.c,wv s5.d,wv s5.e,wv s5.f,wv s5.g,wv s5.h]) 4 8 113 (wv s5.e) rfl kj kj kj kj kj rfl (by decide) rfl) <| sg 2 kj <| sgN hK110 <| sgB kj ?_
  refine wp_block <| wp_loop_rounds 5 ?_
  show Code.wp _ _ (Exit.then (Code.rounds _ _ _ 4) _) _ _
  refine sgB kj <| sgT kj <| wp_seq_k fun K114 hK114=>wp_block <| sgB kj <| Qaf <| sg 8 kj <| Qab (.int .u32 (wv ((s5.e)>>>24))) 37 rfl kj (Qa1 .shr _ _ _ _ .u32 .i64 _ _ _ rfl kj kj (QaQ _ _ _ _ _ _ (by decide) (Qba _ _ 24 rfl (by decide)))) <| Qab (.int .u8 (db s5.e 16777216)) 38 rfl kj (Qai kj (congrArg (Value.int .u8) (QaO s5.e 24 16777216 (by decide)))) <| sg 1 kj ?_
  refine Qaj g6 _ (ints .u8 ([(db s5.a 16777216),(db s5.a 65536),(db s5.a 256),(db s5.a 1),(db s5.b 16777216),(db s5.b 65536),(db s5.b 256),(db s5.b 1),(db s5.c 16777216),(db s5.c 65536),(db s5.c 256),(db s5.c 1),(db s5.d 16777216),(db s5.d 65536),(db s5.d 256),(db s5.d 1),(db s5.e 16777216),0,0,0,0,0,0,0,0,0,0,0,0,0,0,0])) 23 r6_22 rfl kj (Qao 5 _ _ g6 16 23 _ _ r6_22 rfl kj kj kj (show 16<32 by decide)) fun W23 p23 r6_23=>Qak <| hK114 _ _ <| sgA kj ?_
  show Code.rounds _ _ _ 4 _ _
  show Code.wp _ _ (Exit.then (Code.rounds _ _ _ 3) _) _ _
  refine sgB kj <| sgT kj <| wp_seq_k fun K118 hK118=>wp_block <| sgB kj <| Qaf <| sg 8 kj <| Qab (.int .u32 (wv ((s5.e)>>>16))) 37 rfl kj (Qa1 .shr _ _ _ _ .u32 .i64 _ _ _ rfl kj kj (QaQ _ _ _ _ _ _ (by decide) (Qba _ _ 16 rfl (by decide)))) <| Qab (.int .u8 (db s5.e 65536)) 38 rfl kj (Qai kj (congrArg (Value.int .u8) (QaO s5.e 16 65536 (by decide)))) <| sg 1 kj ?_
  refine Qaj g6 _ (ints .u8 ([(db s5.a 16777216),(db s5.a 65536),(db s5.a 256),(db s5.a 1),(db s5.b 16777216),(db s5.b 65536),(db s5.b 256),(db s5.b 1),(db s5.c 16777216),(db s5.c 65536),(db s5.c 256),(db s5.c 1),(db s5.d 16777216),(db s5.d 65536),(db s5.d 256),(db s5.d 1),(db s5.e 16777216),(db s5.e 65536),0,0,0,0,0,0,0,0,0,0,0,0,0,0])) 23 r6_23 rfl kj (Qao 5 _ _ g6 17 23 _ _ r6_23 rfl kj kj kj (show 17<32 by decide)) fun W24 p24 r6_24=>Qak <| hK118 _ _ <| sgA kj ?_
  show Code.rounds _ _ _ 3 _ _
  show Code.wp _ _ (Exit.then (Code.rounds _ _ _ 2) _) _ _
  refine sgB kj <| sgT kj <| wp_seq_k fun K122 hK122=>wp_block <| sgB kj <| Qaf <| sg 8 kj <| Qab (.int .u32 (wv ((s5.e)>>>8))) 37 rfl kj (Qa1 .shr _ _ _ _ .u32 .i64 _ _ _ rfl kj kj (QaQ _ _ _ _ _ _ (by decide) (Qba _ _ 8 rfl (by decide)))) <| Qab (.int .u8 (db s5.e 256)) 38 rfl kj (Qai kj (congrArg (Value.int .u8) (QaO s5.e 8 256 (by decide)))) <| sg 1 kj ?_
  refine Qaj g6 _ (ints .u8 ([(db s5.a 16777216),(db s5.a 65536),(db s5.a 256),(db s5.a 1),(db s5.b 16777216),(db s5.b 65536),(db s5.b 256),(db s5.b 1),(db s5.c 16777216),(db s5.c 65536),(db s5.c 256),(db s5.c 1),(db s5.d 16777216),(db s5.d 65536),(db s5.d 256),(db s5.d 1),(db s5.e 16777216),(db s5.e 65536),(db s5.e 256),0,0,0,0,0,0,0,0,0,0,0,0,0])) 23 r6_24 rfl kj (Qao 5 _ _ g6 18 23 _ _ r6_24 rfl kj kj kj (show 18<32 by decide)) fun W25 p25 r6_25=>Qak <| hK122 _ _ <| sgA kj ?_
  show Code.rounds _ _ _ 2 _ _
  show Code.wp _ _ (Exit.then (Code.rounds _ _ _ 1) _) _ _
  refine sgB kj <| sgT kj <| wp_seq_k fun K126 hK126=>wp_block <| sgB kj <| Qaf <| sg 8 kj <| Qab (.int .u32 (wv ((s5.e)>>>0))) 37 rfl kj (Qa1 .shr _ _ _ _ .u32 .i64 _ _ _ rfl kj kj (QaQ _ _ _ _ _ _ (by decide) (Qba _ _ 0 rfl (by decide)))) <| Qab (.int .u8 (db s5.e 1)) 38 rfl kj (Qai kj (congrArg (Value.int .u8) (QaO s5.e 0 1 (by decide)))) <| sg 1 kj ?_
  refine Qaj g6 _ (ints .u8 ([(db s5.a 16777216),(db s5.a 65536),(db s5.a 256),(db s5.a 1),(db s5.b 16777216),(db s5.b 65536),(db s5.b 256),(db s5.b 1),(db s5.c 16777216),(db s5.c 65536),(db s5.c 256),(db s5.c 1),(db s5.d 16777216),(db s5.d 65536),(db s5.d 256),(db s5.d 1),(db s5.e 16777216),(db s5.e 65536),(db s5.e 256),(db s5.e 1),0,0,0,0,0,0,0,0,0,0,0,0])) 23 r6_25 rfl kj (Qao 5 _ _ g6 19 23 _ _ r6_25 rfl kj kj kj (show 19<32 by decide)) fun W26 p26 r6_26=>Qak <| hK126 _ _ <| sgA kj ?_
  show Code.rounds _ _ _ 1 _ _
  show Code.wp _ _ (Exit.then (Code.rounds _ _ _ 0) _) _ _
  refine sgB kj <| wp_seq_k fun K129 hK129=>cond_false kj <| wp_exit <| hK109 _ _ <| sgA kj ?_
  show Code.rounds _ _ _ 4 _ _
  show Code.wp _ _ (Exit.then (Code.rounds _ _ _ 3) _) _ _
  refine sgB kj <| sgT kj <| wp_seq_k fun K132 hK132=>wp_block <| sgC fun K133 hK133=>sg 1 kj <| Qab (.int .u32 (wv s5.f)) 25 rfl kj (QaF 114 _ _ .i64 .u32 ([wv s5.a,wv s5.b,wv s5.c,wv s5.d,wv s5.e,wv s5.f,wv s5.g,wv s5.h]) 5 8 113 (wv s5.f) rfl kj kj kj kj kj rfl (by decide) rfl) <| sg 2 kj <| sgN hK133 <| sgB kj ?_
  refine wp_block <| wp_loop_rounds 5 ?_
  show Code.wp _ _ (Exit.then (Code.rounds _ _ _ 4) _) _ _
  refine sgB kj <| sgT kj <| wp_seq_k fun K137 hK137=>wp_block <| sgB kj <| Qaf <| sg 8 kj <| Qab (.int .u32 (wv ((s5.f)>>>24))) 37 rfl kj (Qa1 .shr _ _ _ _ .u32 .i64 _ _ _ rfl kj kj (QaQ _ _ _ _ _ _ (by decide) (Qba _ _ 24 rfl (by decide)))) <| Qab (.int .u8 (db s5.f 16777216)) 38 rfl kj (Qai kj (congrArg (Value.int .u8) (QaO s5.f 24 16777216 (by decide)))) <| sg 1 kj ?_
  refine Qaj g6 _ (ints .u8 ([(db s5.a 16777216),(db s5.a 65536),(db s5.a 256),(db s5.a 1),(db s5.b 16777216),(db s5.b 65536),(db s5.b 256),(db s5.b 1),(db s5.c 16777216),(db s5.c 65536),(db s5.c 256),(db s5.c 1),(db s5.d 16777216),(db s5.d 65536),(db s5.d 256),(db s5.d 1),(db s5.e 16777216),(db s5.e 65536),(db s5.e 256),(db s5.e 1),(db s5.f 16777216),0,0,0,0,0,0,0,0,0,0,0])) 23 r6_26 rfl kj (Qao 5 _ _ g6 20 23 _ _ r6_26 rfl kj kj kj (show 20<32 by decide)) fun W27 p27 r6_27=>Qak <| hK137 _ _ <| sgA kj ?_
  show Code.rounds _ _ _ 4 _ _
  show Code.wp _ _ (Exit.then (Code.rounds _ _ _ 3) _) _ _
  refine sgB kj <| sgT kj <| wp_seq_k fun K141 hK141=>wp_block <| sgB kj <| Qaf <| sg 8 kj <| Qab (.int .u32 (wv ((s5.f)>>>16))) 37 rfl kj (Qa1 .shr _ _ _ _ .u32 .i64 _ _ _ rfl kj kj (QaQ _ _ _ _ _ _ (by decide) (Qba _ _ 16 rfl (by decide)))) <| Qab (.int .u8 (db s5.f 65536)) 38 rfl kj (Qai kj (congrArg (Value.int .u8) (QaO s5.f 16 65536 (by decide)))) <| sg 1 kj ?_
  refine Qaj g6 _ (ints .u8 ([(db s5.a 16777216),(db s5.a 65536),(db s5.a 256),(db s5.a 1),(db s5.b 16777216),(db s5.b 65536),(db s5.b 256),(db s5.b 1),(db s5.c 16777216),(db s5.c 65536),(db s5.c 256),(db s5.c 1),(db s5.d 16777216),(db s5.d 65536),(db s5.d 256),(db s5.d 1),(db s5.e 16777216),(db s5.e 65536),(db s5.e 256),(db s5.e 1),(db s5.f 16777216),(db s5.f 65536),0,0,0,0,0,0,0,0,0,0])) 23 r6_27 rfl kj (Qao 5 _ _ g6 21 23 _ _ r6_27 rfl kj kj kj (show 21<32 by decide)) fun W28 p28 r6_28=>Qak <| hK141 _ _ <| sgA kj ?_
  show Code.rounds _ _ _ 3 _ _
  show Code.wp _ _ (Exit.then (Code.rounds _ _ _ 2) _) _ _
  refine sgB kj <| sgT kj <| wp_seq_k fun K145 hK145=>wp_block <| sgB kj <| Qaf <| sg 8 kj <| Qab (.int .u32 (wv ((s5.f)>>>8))) 37 rfl kj (Qa1 .shr _ _ _ _ .u32 .i64 _ _ _ rfl kj kj (QaQ _ _ _ _ _ _ (by decide) (Qba _ _ 8 rfl (by decide)))) <| Qab (.int .u8 (db s5.f 256)) 38 rfl kj (Qai kj (congrArg (Value.int .u8) (QaO s5.f 8 256 (by decide)))) <| sg 1 kj ?_
  refine Qaj g6 _ (ints .u8 ([(db s5.a 16777216),(db s5.a 65536),(db s5.a 256),(db s5.a 1),(db s5.b 16777216),(db s5.b 65536),(db s5.b 256),(db s5.b 1),(db s5.c 16777216),(db s5.c 65536),(db s5.c 256),(db s5.c 1),(db s5.d 16777216),(db s5.d 65536),(db s5.d 256),(db s5.d 1),(db s5.e 16777216),(db s5.e 65536),(db s5.e 256),(db s5.e 1),(db s5.f 16777216),(db s5.f 65536),(db s5.f 256),0,0,0,0,0,0,0,0,0])) 23 r6_28 rfl kj (Qao 5 _ _ g6 22 23 _ _ r6_28 rfl kj kj kj (show 22<32 by decide)) fun W29 p29 r6_29=>Qak <| hK145 _ _ <| sgA kj ?_
  show Code.rounds _ _ _ 2 _ _
  show Code.wp _ _ (Exit.then (Code.rounds _ _ _ 1) _) _ _
  refine sgB kj <| sgT kj <| wp_seq_k fun K149 hK149=>wp_block <| sgB kj <| Qaf <| sg 8 kj <| Qab (.int .u32 (wv ((s5.f)>>>0))) 37 rfl kj (Qa1 .shr _ _ _ _ .u32 .i64 _ _ _ rfl kj kj (QaQ _ _ _ _ _ _ (by decide) (Qba _ _ 0 rfl (by decide)))) <| Qab (.int .u8 (db s5.f 1)) 38 rfl kj (Qai kj (congrArg (Value.int .u8) (QaO s5.f 0 1 (by decide)))) <| sg 1 kj ?_
  refine Qaj g6 _ (ints .u8 ([(db s5.a 16777216),(db s5.a 65536),(db s5.a 256),(db s5.a 1),(db s5.b 16777216),(db s5.b 65536),(db s5.b 256),(db s5.b 1),(db s5.c 16777216),(db s5.c 65536),(db s5.c 256),(db s5.c 1),(db s5.d 16777216),(db s5.d 65536),(db s5.d 256),(db s5.d 1),(db s5.e 16777216),(db s5.e 65536),(db s5.e 256),(db s5.e 1),(db s5.f 16777216),(db s5.f 65536),(db s5.f 256),(db s5.f 1),0,0,0,0,0,0,0,0])) 23 r6_29 rfl kj (Qao 5 _ _ g6 23 23 _ _ r6_29 rfl kj kj kj (show 23<32 by decide)) fun W30 p30 r6_30=>Qak <| hK149 _ _ <| sgA kj ?_
  show Code.rounds _ _ _ 1 _ _
  show Code.wp _ _ (Exit.then (Code.rounds _ _ _ 0) _) _ _
  refine sgB kj <| wp_seq_k fun K152 hK152=>cond_false kj <| wp_exit <| hK132 _ _ <| sgA kj ?_
  show Code.rounds _ _ _ 3 _ _
  show Code.wp _ _ (Exit.then (Code.rounds _ _ _ 2) _) _ _
  refine sgB kj <| sgT kj <| wp_seq_k fun K155 hK155=>wp_block <| sgC fun K156 hK156=>sg 1 kj <| Qab (.int .u32 (wv s5.g)) 25 rfl kj (QaF 114 _ _ .i64 .u32 ([wv s5.a,wv s5.b,wv s5.c,wv s5.d,wv s5.e,wv s5.f,wv s5.g,wv s5.h]) 6 8 113 (wv s5.g) rfl kj kj kj kj kj rfl (by decide) rfl) <| sg 2 kj <| sgN hK156 <| sgB kj ?_
  refine wp_block <| wp_loop_rounds 5 ?_
  show Code.wp _ _ (Exit.then (Code.rounds _ _ _ 4) _) _ _
  refine sgB kj <| sgT kj <| wp_seq_k fun K160 hK160=>wp_block <| sgB kj <| Qaf <| sg 8 kj <| Qab (.int .u32 (wv ((s5.g)>>>24))) 37 rfl kj (Qa1 .shr _ _ _ _ .u32 .i64 _ _ _ rfl kj kj (QaQ _ _ _ _ _ _ (by decide) (Qba _ _ 24 rfl (by decide)))) <| Qab (.int .u8 (db s5.g 16777216)) 38 rfl kj (Qai kj (congrArg (Value.int .u8) (QaO s5.g 24 16777216 (by decide)))) <| sg 1 kj ?_
  refine Qaj g6 _ (ints .u8 ([(db s5.a 16777216),(db s5.a 65536),(db s5.a 256),(db s5.a 1),(db s5.b 16777216),(db s5.b 65536),(db s5.b 256),(db s5.b 1),(db s5.c 16777216),(db s5.c 65536),(db s5.c 256),(db s5.c 1),(db s5.d 16777216),(db s5.d 65536),(db s5.d 256),(db s5.d 1),(db s5.e 16777216),(db s5.e 65536),(db s5.e 256),(db s5.e 1),(db s5.f 16777216),(db s5.f 65536),(db s5.f 256),(db s5.f 1),(db s5.g 16777216),0,0,0,0,0,0,0])) 23 r6_30 rfl kj (Qao 5 _ _ g6 24 23 _ _ r6_30 rfl kj kj kj (show 24<32 by decide)) fun W31 p31 r6_31=>Qak <| hK160 _ _ <| sgA kj ?_
  show Code.rounds _ _ _ 4 _ _
  show Code.wp _ _ (Exit.then (Code.rounds _ _ _ 3) _) _ _
  refine sgB kj <| sgT kj <| wp_seq_k fun K164 hK164=>wp_block <| sgB kj <| Qaf <| sg 8 kj <| Qab (.int .u32 (wv ((s5.g)>>>16))) 37 rfl kj (Qa1 .shr _ _ _ _ .u32 .i64 _ _ _ rfl kj kj (QaQ _ _ _ _ _ _ (by decide) (Qba _ _ 16 rfl (by decide)))) <| Qab (.int .u8 (db s5.g 65536)) 38 rfl kj (Qai kj (congrArg (Value.int .u8) (QaO s5.g 16 65536 (by decide)))) <| sg 1 kj ?_
  refine Qaj g6 _ (ints .u8 ([(db s5.a 16777216),(db s5.a 65536),(db s5.a 256),(db s5.a 1),(db s5.b 16777216),(db s5.b 65536),(db s5.b 256),(db s5.b 1),(db s5.c 16777216),(db s5.c 65536),(db s5.c 256),(db s5.c 1),(db s5.d 16777216),(db s5.d 65536),(db s5.d 256),(db s5.d 1),(db s5.e 16777216),(db s5.e 65536),(db s5.e 256),(db s5.e 1),(db s5.f 16777216),(db s5.f 65536),(db s5.f 256),(db s5.f 1),(db s5.g 16777216),(db s5.g 65536),0,0,0,0,0,0])) 23 r6_31 rfl kj (Qao 5 _ _ g6 25 23 _ _ r6_31 rfl kj kj kj (show 25<32 by decide)) fun W32 p32 r6_32=>Qak <| hK164 _ _ <| sgA kj ?_
  show Code.rounds _ _ _ 3 _ _
  show Code.wp _ _ (Exit.then (Code.rounds _ _ _ 2) _) _ _
  refine sgB kj <| sgT kj <| wp_seq_k fun K168 hK168=>wp_block <| sgB kj <| Qaf <| sg 8 kj <| Qab (.int .u32 (wv ((s5.g)>>>8))) 37 rfl kj (Qa1 .shr _ _ _ _ .u32 .i64 _ _ _ rfl kj kj (QaQ _ _ _ _ _ _ (by decide) (Qba _ _ 8 rfl (by decide)))) <| Qab (.int .u8 (db s5.g 256)) 38 rfl kj (Qai kj (congrArg (Value.int .u8) (QaO s5.g 8 256 (by decide)))) <| sg 1 kj ?_
  refine Qaj g6 _ (ints .u8 ([(db s5.a 16777216),(db s5.a 65536),(db s5.a 256),(db s5.a 1),(db s5.b 16777216),(db s5.b 65536),(db s5.b 256),(db s5.b 1),(db s5.c 16777216),(db s5.c 65536),(db s5.c 256),(db s5.c 1),(db s5.d 16777216),(db s5.d 65536),(db s5.d 256),(db s5.d 1),(db s5.e 16777216),(db s5.e 65536),(db s5.e 256),(db s5.e 1),(db s5.f 16777216),(db s5.f 65536),(db s5.f 256),(db s5.f 1),(db s5.g 16777216),(db s5.g 65536),(db s5.g 256),0,0,0,0,0])) 23 r6_32 rfl kj (Qao 5 _ _ g6 26 23 _ _ r6_32 rfl kj kj kj (show 26<32 by decide)) fun W33 p33 r6_33=>Qak <| hK168 _ _ <| sgA kj ?_
  show Code.rounds _ _ _ 2 _ _
  show Code.wp _ _ (Exit.then (Code.rounds _ _ _ 1) _) _ _
  refine sgB kj <| sgT kj <| wp_seq_k fun K172 hK172=>wp_block <| sgB kj <| Qaf <| sg 8 kj <| Qab (.int .u32 (wv ((s5.g)>>>0))) 37 rfl kj (Qa1 .shr _ _ _ _ .u32 .i64 _ _ _ rfl kj kj (QaQ _ _ _ _ _ _ (by decide) (Qba _ _ 0 rfl (by decide)))) <| Qab (.int .u8 (db s5.g 1)) 38 rfl kj (Qai kj (congrArg (Value.int .u8) (QaO s5.g 0 1 (by decide)))) <| sg 1 kj ?_
  refine Qaj g6 _ (ints .u8 ([(db s5.a 16777216),(db s5.a 65536),(db s5.a 256),(db s5.a 1),(db s5.b 16777216),(db s5.b 65536),(db s5.b 256),(db s5.b 1),(db s5.c 16777216),(db s5.c 65536),(db s5.c 256),(db s5.c 1),(db s5.d 16777216),(db s5.d 65536),(db s5.d 256),(db s5.d 1),(db s5.e 16777216),(db s5.e 65536),(db s5.e 256),(db s5.e 1),(db s5.f 16777216),(db s5.f 65536),(db s5.f 256),(db s5.f 1),(db s5.g 16777216),(db s5.g 65536),(db s5.g 256),(db s5.g 1),0,0,0,0])) 23 r6_33 rfl kj (Qao 5 _ _ g6 27 23 _ _ r6_33 rfl kj kj kj (show 27<32 by decide)) fun W34 p34 r6_34=>Qak <| hK172 _ _ <| sgA kj ?_
  show Code.rounds _ _ _ 1 _ _
  show Code.wp _ _ (Exit.then (Code.rounds _ _ _ 0) _) _ _
  refine sgB kj <| wp_seq_k fun K175 hK175=>cond_false kj <| wp_exit <| hK155 _ _ <| sgA kj ?_
  show Code.rounds _ _ _ 2 _ _
  show Code.wp _ _ (Exit.then (Code.rounds _ _ _ 1) _) _ _
  refine sgB kj <| sgT kj <| wp_seq_k fun K178 hK178=>wp_block <| sgC fun K179 hK179=>sg 1 kj <| Qab (.int .u32 (wv s5.h)) 25 rfl kj (QaF 114 _ _ .i64 .u32 ([wv s5.a,wv s5.b,wv s5.c,wv s5.d,wv s5.e,wv s5.f,wv s5.g,wv s5.h]) 7 8 113 (wv s5.h) rfl kj kj kj kj kj rfl (by decide) rfl) <| sg 2 kj <| sgN hK179 <| sgB kj ?_
  refine wp_block <| wp_loop_rounds 5 ?_
  show Code.wp _ _ (Exit.then (Code.rounds _ _ _ 4) _) _ _
  refine sgB kj <| sgT kj <| wp_seq_k fun K183 hK183=>wp_block <| sgB kj <| Qaf <| sg 8 kj <| Qab (.int .u32 (wv ((s5.h)>>>24))) 37 rfl kj (Qa1 .shr _ _ _ _ .u32 .i64 _ _ _ rfl kj kj (QaQ _ _ _ _ _ _ (by decide) (Qba _ _ 24 rfl (by decide)))) <| Qab (.int .u8 (db s5.h 16777216)) 38 rfl kj (Qai kj (congrArg (Value.int .u8) (QaO s5.h 24 16777216 (by decide)))) <| sg 1 kj ?_
  refine Qaj g6 _ (ints .u8 ([(db s5.a 16777216),(db s5.a 65536),(db s5.a 256),(db s5.a 1),(db s5.b 16777216),(db s5.b 65536),(db s5.b 256),(db s5.b 1),(db s5.c 16777216),(db s5.c 65536),(db s5.c 256),(db s5.c 1),(db s5.d 16777216),(db s5.d 65536),(db s5.d 256),(db s5.d 1),(db s5.e 16777216),(db s5.e 65536),(db s5.e 256),(db s5.e 1),(db s5.f 16777216),(db s5.f 65536),(db s5.f 256),(db s5.f 1),(db s5.g 16777216),(db s5.g 65536),(db s5.g 256),(db s5.g 1),(db s5.h 16777216),0,0,0])) 23 r6_34 rfl kj (Qao 5 _ _ g6 28 23 _ _ r6_34 rfl kj kj kj (show 28<32 by decide)) fun W35 p35 r6_35=>Qak <| hK183 _ _ <| sgA kj ?_
  show Code.rounds _ _ _ 4 _ _
  show Code.wp _ _ (Exit.then (Code.rounds _ _ _ 3) _) _ _
  refine sgB kj <| sgT kj <| wp_seq_k fun K187 hK187=>wp_block <| sgB kj <| Qaf <| sg 8 kj <| Qab (.int .u32 (wv ((s5.h)>>>16))) 37 rfl kj (Qa1 .shr _ _ _ _ .u32 .i64 _ _ _ rfl kj kj (QaQ _ _ _ _ _ _ (by decide) (Qba _ _ 16 rfl (by decide)))) <| Qab (.int .u8 (db s5.h 65536)) 38 rfl kj (Qai kj (congrArg (Value.int .u8) (QaO s5.h 16 65536 (by decide)))) <| sg 1 kj ?_
  refine Qaj g6 _ (ints .u8 ([(db s5.a 16777216),(db s5.a 65536),(db s5.a 256),(db s5.a 1),(db s5.b 16777216),(db s5.b 65536),(db s5.b 256),(db s5.b 1),(db s5.c 16777216),(db s5.c 65536),(db s5.c 256),(db s5.c 1),(db s5.d 16777216),(db s5.d 65536),(db s5.d 256),(db s5.d 1),(db s5.e 16777216),(db s5.e 65536),(db s5.e 256),(db s5.e 1),(db s5.f 16777216),(db s5.f 65536),(db s5.f 256),(db s5.f 1),(db s5.g 16777216),(db s5.g 65536),(db s5.g 256),(db s5.g 1),(db s5.h 16777216),(db s5.h 65536),0,0])) 23 r6_35 rfl kj (Qao 5 _ _ g6 29 23 _ _ r6_35 rfl kj kj kj (show 29<32 by decide)) fun W36 p36 r6_36=>Qak <| hK187 _ _ <| sgA kj ?_
  show Code.rounds _ _ _ 3 _ _
  show Code.wp _ _ (Exit.then (Code.rounds _ _ _ 2) _) _ _
  refine sgB kj <| sgT kj <| wp_seq_k fun K191 hK191=>wp_block <| sgB kj <| Qaf <| sg 8 kj <| Qab (.int .u32 (wv ((s5.h)>>>8))) 37 rfl kj (Qa1 .shr _ _ _ _ .u32 .i64 _ _ _ rfl kj kj (QaQ _ _ _ _ _ _ (by decide) (Qba _ _ 8 rfl (by decide)))) <| Qab (.int .u8 (db s5.h 256)) 38 rfl kj (Qai kj (congrArg (Value.int .u8) (QaO s5.h 8 256 (by decide)))) <| sg 1 kj ?_
  refine Qaj g6 _ (ints .u8 ([(db s5.a 16777216),(db s5.a 65536),(db s5.a 256),(db s5.a 1),(db s5.b 16777216),(db s5.b 65536),(db s5.b 256),(db s5.b 1),(db s5.c 16777216),(db s5.c 65536),(db s5.c 256),(db s5.c 1),(db s5.d 16777216),(db s5.d 65536),(db s5.d 256),(db s5.d 1),(db s5.e 16777216),(db s5.e 65536),(db s5.e 256),(db s5.e 1),(db s5.f 16777216),(db s5.f 65536),(db s5.f 256),(db s5.f 1),(db s5.g 16777216),(db s5.g 65536),(db s5.g 256),(db s5.g 1),(db s5.h 16777216),(db s5.h 65536),(db s5.h 256),0])) 23 r6_36 rfl kj (Qao 5 _ _ g6 30 23 _ _ r6_36 rfl kj kj kj (show 30<32 by decide)) fun W37 p37 r6_37=>Qak <| hK191 _ _ <| sgA kj ?_
  show Code.rounds _ _ _ 2 _ _
  show Code.wp _ _ (Exit.then (Code.rounds _ _ _ 1) _) _ _
  refine sgB kj <| sgT kj <| wp_seq_k fun K195 hK195=>wp_block <| sgB kj <| Qaf <| sg 8 kj <| Qab (.int .u32 (wv ((s5.h)>>>0))) 37 rfl kj (Qa1 .shr _ _ _ _ .u32 .i64 _ _ _ rfl kj kj (QaQ _ _ _ _ _ _ (by decide) (Qba _ _ 0 rfl (by decide)))) <| Qab (.int .u8 (db s5.h 1)) 38 rfl kj (Qai kj (congrArg (Value.int .u8) (QaO s5.h 0 1 (by decide)))) <| sg 1 kj ?_
  refine Qaj g6 _ (ints .u8 ([(db s5.a 16777216),(db s5.a 65536),(db s5.a 256),(db s5.a 1),(db s5.b 16777216),(db s5.b 65536),(db s5.b 256),(db s5.b 1),(db s5.c 16777216),(db s5.c 65536),(db s5.c 256),(db s5.c 1),(db s5.d 16777216),(db s5.d 65536),(db s5.d 256),(db s5.d 1),(db s5.e 16777216),(db s5.e 65536),(db s5.e 256),(db s5.e 1),(db s5.f 16777216),(db s5.f 65536),(db s5.f 256),(db s5.f 1),(db s5.g 16777216),(db s5.g 65536),(db s5.g 256),(db s5.g 1),(db s5.h 16777216),(db s5.h 65536),(db s5.h 256),(db s5.h 1)])) 23 r6_37 rfl kj (Qao 5 _ _ g6 31 23 _ _ r6_37 rfl kj kj kj (show 31<32 by decide)) fun W38 p38 r6_38=>Qak <| hK195 _ _ <| sgA kj ?_
  show Code.rounds _ _ _ 1 _ _
  show Code.wp _ _ (Exit.then (Code.rounds _ _ _ 0) _) _ _
  refine sgB kj <| wp_seq_k fun K198 hK198=>cond_false kj <| wp_exit <| hK178 _ _ <| sgA kj ?_
  show Code.rounds _ _ _ 1 _ _
  show Code.wp _ _ (Exit.then (Code.rounds _ _ _ 0) _) _ _
  refine sgB kj <| wp_seq_k fun K200 hK200=>cond_false kj <| wp_exit <| hK13 _ _ <| sgC fun K201 hK201=>Qab (.agg (ints .u8 ([(db s5.a 16777216),(db s5.a 65536),(db s5.a 256),(db s5.a 1),(db s5.b 16777216),(db s5.b 65536),(db s5.b 256),(db s5.b 1),(db s5.c 16777216),(db s5.c 65536),(db s5.c 256),(db s5.c 1),(db s5.d 16777216),(db s5.d 65536),(db s5.d 256),(db s5.d 1),(db s5.e 16777216),(db s5.e 65536),(db s5.e 256),(db s5.e 1),(db s5.f 16777216),(db s5.f 65536),(db s5.f 256),(db s5.f 1),(db s5.g 16777216),(db s5.g 65536),(db s5.g 256),(db s5.g 1),(db s5.h 16777216),(db s5.h 65536),(db s5.h 256),(db s5.h 1)]))) 42 rfl kj (Qaq 23 _ g6 23 _ _ r6_38 rfl kj kj (isz (n:=32) kj kj)) ?_
  have r4_2:=(Qac r4_1 e2)
  have r4_38:=(Puts.row p38 (Puts.row p37 (Puts.row p36 (Puts.row p35 (Puts.row p34 (Puts.row p33 (Puts.row p32 (Puts.row p31 (Puts.row p30 (Puts.row p29 (Puts.row p28 (Puts.row p27 (Puts.row p26 (Puts.row p25 (Puts.row p24 (Puts.row p23 (Puts.row p22 (Puts.row p21 (Puts.row p20 (Puts.row p19 (Puts.row p18 (Puts.row p17 (Puts.row p16 (Puts.row p15 (Puts.row p14 (Puts.row p13 (Puts.row p12 (Puts.row p11 (Puts.row p10 (Puts.row p9 (Puts.row p8 (Puts.row p7 (ExtB.row q6 (Qac (Puts.row p4 (Qac r4_2 e3) (Qae r4_2 l10)) e5) (Qae r4_2 l10)) (Qae r4_1 l6)) (Qae r4_1 l6)) (Qae r4_1 l6)) (Qae r4_1 l6)) (Qae r4_1 l6)) (Qae r4_1 l6)) (Qae r4_1 l6)) (Qae r4_1 l6)) (Qae r4_1 l6)) (Qae r4_1 l6)) (Qae r4_1 l6)) (Qae r4_1 l6)) (Qae r4_1 l6)) (Qae r4_1 l6)) (Qae r4_1 l6)) (Qae r4_1 l6)) (Qae r4_1 l6)) (Qae r4_1 l6)) (Qae r4_1 l6)) (Qae r4_1 l6)) (Qae r4_1 l6)) (Qae r4_1 l6)) (Qae r4_1 l6)) (Qae r4_1 l6)) (Qae r4_1 l6)) (Qae r4_1 l6)) (Qae r4_1 l6)) (Qae r4_1 l6)) (Qae r4_1 l6)) (Qae r4_1 l6)) (Qae r4_1 l6)) (Qae r4_1 l6))
  refine Qaj g4 _ (ints .u8 ([(db s5.a 16777216),(db s5.a 65536),(db s5.a 256),(db s5.a 1),(db s5.b 16777216),(db s5.b 65536),(db s5.b 256),(db s5.b 1),(db s5.c 16777216),(db s5.c 65536),(db s5.c 256),(db s5.c 1),(db s5.d 16777216),(db s5.d 65536),(db s5.d 256),(db s5.d 1),(db s5.e 16777216),(db s5.e 65536),(db s5.e 256),(db s5.e 1),(db s5.f 16777216),(db s5.f 65536),(db s5.f 256),(db s5.f 1),(db s5.g 16777216),(db s5.g 65536),(db s5.g 256),(db s5.g 1),(db s5.h 16777216),(db s5.h 65536),(db s5.h 256),(db s5.h 1)])) 23 r4_38 rfl kj (Qal 23 _ _ g4 23 _ _ r4_38 rfl kj kj (isz (n:=32) kj kj) (eqsz (n:=32) kj kj) (Qau _ _)) fun W39 p39 r4_39=>sgN hK201 <| wp_ret ?_
  repeat (first | with_reducible refine goR1 ?_ | with_reducible refine goR2 ?_)
  exact (show bodyPost _ _ _ .ret _ _ from ret1 (.agg (ints .u8 ([(db s5.a 16777216),(db s5.a 65536),(db s5.a 256),(db s5.a 1),(db s5.b 16777216),(db s5.b 65536),(db s5.b 256),(db s5.b 1),(db s5.c 16777216),(db s5.c 65536),(db s5.c 256),(db s5.c 1),(db s5.d 16777216),(db s5.d 65536),(db s5.d 256),(db s5.d 1),(db s5.e 16777216),(db s5.e 65536),(db s5.e 256),(db s5.e 1),(db s5.f 16777216),(db s5.f 65536),(db s5.f 256),(db s5.f 1),(db s5.g 16777216),(db s5.g 65536),(db s5.g 256),(db s5.g 1),(db s5.h 16777216),(db s5.h 65536),(db s5.h 256),(db s5.h 1)]))) rfl (QaE g4 23 _ r4_39 kj kj (isz (n:=32) kj kj)) ⟨by rw [show dig t=s5.out by rw [hs5]; rfl]; rfl,(Puts.ext p39 (Puts.ext p38 (Puts.ext p37 (Puts.ext p36 (Puts.ext p35 (Puts.ext p34 (Puts.ext p33 (Puts.ext p32 (Puts.ext p31 (Puts.ext p30 (Puts.ext p29 (Puts.ext p28 (Puts.ext p27 (Puts.ext p26 (Puts.ext p25 (Puts.ext p24 (Puts.ext p23 (Puts.ext p22 (Puts.ext p21 (Puts.ext p20 (Puts.ext p19 (Puts.ext p18 (Puts.ext p17 (Puts.ext p16 (Puts.ext p15 (Puts.ext p14 (Puts.ext p13 (Puts.ext p12 (Puts.ext p11 (Puts.ext p10 (Puts.ext p9 (Puts.ext p8 (Puts.ext p7 (ExtB.up (Ext.tr (Puts.ext p4 (Ext.tr x2 e3) b10) e5) q6 b10) b6) b6) b6) b6) b6) b6) b6) b6) b6) b6) b6) b6) b6) b6) b6) b6) b6) b6) b6) b6) b6) b6) b6) b6) b6) b6) b6) b6) b6) b6) b6) b6) (qT (Rely.Ext.refl w).size l4))⟩)
end Go.Proofs.YtibegnjaphohaaaDoor.Sha
end
section
namespace Go.Proofs.YtibegnjaphohaaaDoor.Sha
open Go Go.RowKit
open Rely Auto Own
def pat (ps : List (Value×List Int)) (i:Nat):Value×List Int:=ps.getD i (undef,[])
def flat (ps : List (Value×List Int)) (i:Nat):List Int:=((ps.take i).map Prod.snd).flatten
theorem QiL {ps : List (Value×List Int)} {i:Nat} (h:i<ps.length):pat ps i=ps[i]:=by simp [pat,h]
theorem QfA {ps : List (Value×List Int)} {i:Nat} (h:i<ps.length):pat ps i∈ps:=by rw [QiL h]; exact List.getElem_mem h
theorem QkB {ps : List (Value×List Int)} {i:Nat} (h:i<ps.length):(ps.map Prod.fst).toArray[i]? = some (pat ps i).1:=by
  rw [QiL h]; simp [h]
theorem QeQ {ps : List (Value×List Int)} {i:Nat} (h:i<ps.length):flat ps (i+1)=flat ps i++(pat ps i).2:=by
  unfold flat
  rw [List.take_add_one,List.getElem?_eq_getElem h,QiL h,List.map_append,List.flatten_append]
  show _++[ps[i].2].flatten=_
  rw [List.flatten_singleton]
theorem QdK {ps : List (Value×List Int)} {n:Nat} (h:ps.length=n):flat ps n=(ps.map Prod.snd).flatten:=by
  subst h; simp [flat]
theorem Qjq {ps : List (Value×List Int)} {i:Nat} (h:i<ps.length):(flat ps i).length+(pat ps i).2.length≤((ps.map Prod.snd).flatten).length:=by
  have e:(flat ps (i+1)).length=(flat ps i).length+(pat ps i).2.length:=by rw [QeQ h,List.length_append]
  rw [←e]
  have:(ps.map Prod.snd).flatten=flat ps (i+1)++((ps.drop (i+1)).map Prod.snd).flatten:=by
    unfold flat
    rw [←List.flatten_append,←List.map_append,List.take_append_drop]
  rw [this,List.length_append]; omega
theorem Qlt (s : S8):s.out.length=32:=rfl
theorem QaW (t : List Int):(dig t).length=32:=Qlt _
theorem Qk8 (gp n:Nat) (Tp:TypeId) (ps:List (Value×List Int)) (hn:ps.length=n) (hn9:n≤1000000) (tc tq:TypeId) (w:World) (hc:w.heap[2]? = some (.cells (ints .u64 QaN) tc)) (hq:w.heap[1]? = some (.cells (ints .u64 Qam) tq)) (hrow:w.heap[gp]? = some (.cells (ps.map Prod.fst).toArray Tp)) (hps:∀ p∈ps,RdK .u8 w.heap.size p.2 p.1 w∧Qat p.2) (hlen:((ps.map Prod.snd).flatten).length≤900000000):Calls Tryd.prog 73 #[.slice (some ⟨gp,0,none⟩) n n] w (Ret w (.agg (ints .u8 (dig ((ps.map Prod.snd).flatten))))):=by
 refine enter 19 [(0,.slice (some ⟨gp,0,none⟩) n n)] Tryd.func73 rfl rfl kj rfl <| sgC fun K4 hK4=>Qap (ints .u8 (List.replicate 32 0)) 23 2 rfl kj kj fun g5 W1 l5 e1 r5_1=>?_
 have x1:=Ext.tr (Rely.Ext.refl w) e1
 refine sgN hK4 <| sgC fun K6 hK6=>Qa6 (fun v W'=>(fun v W=>∃ g,v=.pointer (some ⟨g,0,none⟩)∧W1.heap.size≤g∧HasD g [] W) v W'∧Ext W1 W') 70 #[] 6 rfl kj kj ((newC tq _ (Qac hq e1)).mono (by rintro e w' ⟨v,rfl,e1,hv⟩; exact ⟨v,rfl,hv,e1⟩)) fun vv7 W2 hh7=>?_
 obtain ⟨hv7,e2⟩:=hh7
 obtain ⟨gd8,rfl,ld8,hD8⟩:=hv7
 have b8:=qT x1.size ld8
 refine sg 1 kj <| sgN hK6 <| wp_seq_k fun K9 hK9=>sgB kj <| wp_block <| QaC (fun (s1:Nat)=>[(7,.slice (some ⟨gp,0,none⟩) n n),(8,.int .i64 ((n:Nat):Int)),(9,.int .i64 ((s1:Nat):Int)),(3,.pointer (some ⟨gd8,0,none⟩)),(2,.pointer (some ⟨g5,0,none⟩))]) (fun (s1:Nat) W=>(s1≤n)∧(HasD gd8 (flat ps s1) W)∧(Qah [gd8] W2 W)∧(Ext w W)) (fun (s1:Nat)=>n-s1) 0 ⟨kj,kj,kj,kj,kj,trivial⟩ ⟨(Nat.zero_le _),(show HasD _ (flat ps 0) _ from hD8),(Qah.refl [gd8] W2),(Ext.tr x1 e2)⟩ fun s1 X1 V1 hI1=>?_
 obtain ⟨i,hs1⟩:∃ z,z=s1:=⟨_,rfl⟩
 subst hs1
 obtain ⟨hi,hDi,kk1,xx1⟩:=hI1
 replace hi:i≤n:=hi
 replace hDi:HasD gd8 (flat ps i) V1:=hDi
 replace kk1:Qah [gd8] W2 V1:=kk1
 replace xx1:Ext w V1:=xx1
 have q3:=kk1
 refine sgB kj <| wp_seq_k fun K12 hK12=>Qa3 (t:=decide (((i:Nat):Int)<((n:Nat):Int))) kj (fun c13=>?_) (fun c13=>?_)
 ·skip
  have hlt10:i<n:=by have:=of_decide_eq_true c13; omega
  refine wp_skip <| hK12 _ _ <| wp_seq_k fun K14 hK14=>wp_block <| sgC fun K15 hK15=>?_
  have hi2:i<ps.length:=by omega
  refine Qab (.pointer (some ⟨gp,i,none⟩)) 11 rfl kj (Qbb 121 _ _ .i64 i gp n n 38 rfl kj kj kj kj hlt10) ?_
  have r3_1:=(Qac hrow e1)
  refine Qab ((pat ps i).1) 12 rfl kj (QaH 38 _ _ ((pat ps i).1) (QcO (Qah.row q3 (Qac r3_1 e2) (Qax (Qae r3_1 ld8) QaJ)) (QkB hi2)) rfl kj kj) <| sg 1 kj <| sgN hK15 <| Qaf <| sg 2 kj ?_
  have r1_1:=(Qac hc e1)
  have r1_2:=(Qac r1_1 e2)
  have r1_3:=(Qah.row q3 r1_2 (Qax (Qae r1_1 ld8) QaJ))
  have hp6:=(hps _ (QfA hi2)).1.ext xx1
  have hl6:=Qjq hi2
  refine Qa6 (fun v W'=>v=.tuple #[]∧ExtB gd8 V1 W'∧HasD gd8 ((flat ps i)++(pat ps i).2) W') 71 #[.pointer (some ⟨gd8,0,none⟩),(pat ps i).1] 15 rfl kj kj ((addC gd8 _ _ _ _ tc _ r1_3 (Nat.ne_of_lt (qL (Qay hc) b8)) (hp6.nb b8) (hps _ (QfA hi2)).2 (by omega) hDi hp6).mono fun e w' h=>⟨_,h.1,rfl,h.2⟩) fun v W4 h=>?_
  obtain ⟨rfl,q4,hDn⟩:=h
  have x4:=ExtB.up xx1 q4 b8
  refine Qak <| hK14 _ _ <| Qaf <| Qab (.int .i64 ((i+1:Nat):Int)) 16 rfl kj (Qai (u:=.int .i64 (IntKind.i64.wrap (((i:Nat):Int)+1))) kj (congrArg (Value.int .i64) (i64n _ _ (by omega) (by omega)))) <| sg 1 kj <| Qak ?_
  repeat (first | with_reducible refine goX1 ?_ | with_reducible refine goX2 ?_ | with_reducible refine goX3 ?_)
  exact Qa4 (i+1) ⟨kj,kj,kj,kj,kj,trivial⟩ ⟨(by omega),(by rw [QeQ hi2]; exact hDn),(Qah.but q3 q4 (.inl (by simp))),x4⟩ (by omega)
 ·skip
  have heq10:i=n:=by have:=of_decide_eq_false c13; omega
  refine wp_exit <| hK9 _ _ <| sgC fun K16 hK16=>sg 1 kj ?_
  have r1_1:=(Qac hc e1)
  have r1_2:=(Qac r1_1 e2)
  have r1_3:=(Qah.row q3 r1_2 (Qax (Qae r1_1 ld8) QaJ))
  refine Qar (.agg (ints .u8 (dig (flat ps i)))) 72 #[.pointer (some ⟨gd8,0,none⟩)] 18 rfl kj kj (sumC gd8 _ tc _ r1_3 (by rw [heq10,QdK hn]; exact hlen) hDi) fun W4 e4=>?_
  have x4:=Ext.tr xx1 e4
  have r5_4:=(Qac (Qah.row q3 (Qac r5_1 e2) (Qax (Qae r5_1 ld8) QaJ)) e4)
  refine Qaj g5 _ (ints .u8 (dig (flat ps i))) 23 r5_4 rfl kj (Qal 23 _ _ g5 23 _ _ r5_4 rfl kj kj (isz (n:=32) kj ((Qad _ _).trans (QaW _))) (eqsz (n:=32) ((Qad _ _).trans (List.length_replicate (n:=32))) ((Qad _ _).trans (QaW _))) (Qau _ _)) fun W5 p5 r5_5=>sgN hK16 <| wp_ret ?_
  repeat (first | with_reducible refine goR1 ?_ | with_reducible refine goR2 ?_)
  exact (show bodyPost _ _ _ .ret _ _ from ret1 (.agg (ints .u8 (dig (flat ps i)))) rfl (QaE g5 23 _ r5_5 kj kj (isz (n:=32) kj ((Qad _ _).trans (QaW _)))) ⟨by rw [heq10,QdK hn],(Puts.ext p5 x4 (qT (Rely.Ext.refl w).size l5))⟩)
end Go.Proofs.YtibegnjaphohaaaDoor.Sha
end
section
namespace Go.Proofs.YtibegnjaphohaaaDoor.Sha
open Go Go.RowKit
open Rely Auto Own
theorem Qiq (x : Wd):Qat (wby x):=fun y hy=>by
  simp only [wby,List.mem_cons,List.not_mem_nil,or_false] at hy
  rcases hy with h | h | h | h <;> omega
theorem QdN (t : List Int):Qat (dig t):=fun y hy=>by
  unfold dig S8.out at hy
  obtain ⟨x,_,h⟩:=List.mem_flatMap.1 hy
  exact Qiq x y h
def xorb (c x:Int):Int:=bits .xor .u8 x c
theorem Qip (c x:Int):0≤xorb c x∧xorb c x≤255:=by
  unfold xorb bits
  have:∀ z:Int,IntKind.u8.wrap z=z%2^8:=fun _=>rfl
  rw [this]; omega
def keyL (key : List Int):List Int:=if 64<key.length then dig key else key
def keyB (key : List Int):List Int:=keyL key++List.replicate (64-(keyL key).length) 0
def padX (c : Int) (key:List Int):List Int:=(keyB key).map (xorb c)
def hmac (key t:List Int):List Int:=dig (padX 92 key++dig (padX 54 key++t))
theorem QfM (key : List Int):(keyL key).length≤64:=by
  unfold keyL
  split
  · rw [QaW]; decide
  · omega
theorem Qbz (key : List Int):(keyB key).length=64:=by
  have:=QfM key
  simp [keyB]; omega
theorem Qa9 (c : Int) (key:List Int):(padX c key).length=64:=by rw [padX,List.length_map,Qbz]
theorem Qcw (c : Int) (key:List Int):Qat (padX c key):=fun y hy=>by
  obtain ⟨x,_,rfl⟩:=List.mem_map.1 hy
  exact Qip c x
theorem Qc8 (c : Int) (key:List Int) {i:Nat} (h:i<64):nth (padX c key) i=bits .xor .u8 (nth (keyB key) i) c:=by
  have hl:=Qbz key
  show nth ((keyB key).map (xorb c)) i=xorb c (nth (keyB key) i)
  simp [nth,List.getD_eq_getElem?_getD,show i<(keyB key).length by omega]
theorem Qb2 (key t:List Int):(hmac key t).length=32:=QaW _
theorem Qii (key t:List Int):Qat (hmac key t):=QdN _
def puts (xs ys:List Int) (m:Nat):List Int:=xs.take m++ys.drop m
theorem Qhm {xs ys:List Int} {n m:Nat} (hx:xs.length=n) (hy:ys.length=n) (hm:m≤n):(puts xs ys m).length=n:=by simp [puts]; omega
theorem Qgk (xs ys:List Int):puts xs ys 0=ys:=by simp [puts]
theorem Qgl {xs ys:List Int} {n:Nat} (hx:xs.length=n) (hy:ys.length=n):puts xs ys n=xs:=by
  unfold puts
  rw [List.take_of_length_le (by omega),List.drop_of_length_le (by omega),List.append_nil]
theorem Qhl {xs ys:List Int} {n m:Nat} (hx:xs.length=n) (hy:ys.length=n) (hm:m<n):(puts xs ys m).set m (nth xs m)=puts xs ys (m+1):=by
  unfold puts
  have hl:(xs.take m).length=m:=by rw [List.length_take]; omega
  rw [List.set_append_right _ _ (by omega),hl,Nat.sub_self,List.drop_eq_getElem_cons (by omega),List.set_cons_zero,List.take_add_one,List.getElem?_eq_getElem (by omega),List.append_assoc]
  simp [nth,show m<xs.length by omega]
section
variable {ds : List Deferred} {P : Program} {ops : Array Oper} {Q : Exit → Act → World → Prop} {rest : List Oper} {o : Oper} {N : Nat} {L : Env} {W : World}
theorem Qgb {k : IntKind} {e:TypeId} (x y:Operand) (tx ty:TypeId) (d:Nat) (ho:o.op=.call { callee:=.builtin .copy,args:=#[x,y],argTypes:=#[tx,ty] }) (hu:P.underlying tx=some (.slice e)) (hsz:(P.info? e).map (·.size)=some 1) (hd:o.dst=some d) (hgd:Qbr ops o N L=some true)
    {g off dl dc n B:Nat} {xs z:List Int} {v:Value} {T:TypeId} (hx:Rely.look (envN N L) x=.slice (some ⟨g,off,none⟩) dl dc) (hy:Rely.look (envN N L) y=v) (hr:RdK k B z v W)
    (hg:W.heap[g]? = some (.cells (ints k xs) T)) (hq:off+dl≤xs.length) (hn:n=min z.length dl)
    (kk:∀ W':World,Puts W g W'→W'.heap[g]? = some (.cells (ints k (xs.take off++z.take n++xs.drop (off+n))) T)→WL P ops Q rest (Qa0 ds N ((d,.int .i64 ((n:Nat):Int))::L)) W'):WL P ops Q (o::rest) (Qa0 ds N L) W:=by
  obtain ⟨a,cap,rfl,y2,y3,y4,y5⟩:=hr
  have hgo:∀ W',(Builtin.copy_ #[tx,ty] o.type #[.slice (some ⟨g,off,none⟩) dl dc,.slice a z.length cap]).run P W=.ok (goInt n) W'→(execOp (Rely.look (envN N L)) o).run P W=.ok (.value (.int .i64 ((n:Nat):Int))) W':=fun W' h=>by
    unfold execOp
    simp only [ho,resolve,invoke,builtin,Sem.run_bind,Sem.run_pure,Result.andThen_ok,List.map_toArray,List.map_cons,List.map_nil,hx,hy,h,goInt]
  rcases Nat.eq_zero_or_pos n with h0 | h0
  · refine Qbt _ _ d hd hgd (hgo W ?_) (kk W ⟨rfl,rfl,rfl,rfl,fun _ _=>rfl⟩ ?_)
    · rw [h0]; exact run_copy_none W tx ty o.type e _ _ _ _ _ _ hu hsz (hn.symm.trans h0)
    · rw [h0,List.take_zero,List.append_nil,Nat.add_zero,List.take_append_drop]; exact hg
  · obtain ⟨gz,oz,rfl,z2,z3,z4⟩:=y5.resolve_left (fun e=>by rw [e] at hn; simp at hn; omega)
    have hlen:((z.take n).map (Value.int k)).length=n:=by simp; omega
    have h:=run_copy_row (P:=P) W tx ty o.type e g off dl dc ⟨gz,oz,none⟩ z.length cap (ints k xs) T ((z.take n).map (Value.int k)) hu hsz hg (by rw [hlen]; exact hn)
      (QiV (k:=k) (ys:=z.take n) fun i hi=>by
        rw [List.length_take] at hi
        rw [z4 i (by omega)]
        simp [nth,show i<n by omega]) (by rw [hlen,Qad]; omega) (QiR k _)
    rw [hlen] at h
    have e1:((ints k xs).toList.take off++(z.take n).map (Value.int k)++(ints k xs).toList.drop (off+n)).toArray=ints k (xs.take off++z.take n++xs.drop (off+n)):=by
      apply Array.ext'
      show (xs.map (Value.int k)).take off++(z.take n).map (Value.int k)++(xs.map (Value.int k)).drop (off+n)=(xs.take off++z.take n++xs.drop (off+n)).map (Value.int k)
      simp only [List.map_append,List.map_take,List.map_drop]
    rw [e1] at h
    exact Qbt _ _ d hd hgd (hgo _ h) (kk _ (Qbw _ _ _) (setRow_heap _ _ _ _ _ _ hg))
end
theorem Qje {key : List Int} (h:64<key.length):(List.replicate 64 (0:Int)).take 0++(dig key).take 32++(List.replicate 64 (0:Int)).drop (0+32)=keyB key:=by
  have hd:=QaW key
  unfold keyB keyL
  rw [if_pos h,hd,List.take_zero,List.nil_append,List.take_of_length_le (by omega),List.drop_replicate]
theorem Qif {key : List Int} (h:¬ 64<key.length) (n:Nat) (hn:n=min key.length 64):(List.replicate 64 (0:Int)).take 0++key.take n++(List.replicate 64 (0:Int)).drop (0+n)=keyB key:=by
  unfold keyB keyL
  rw [if_neg h,List.take_zero,List.nil_append,List.take_of_length_le (by omega),List.drop_replicate,show 64-(0+n)=64-key.length by omega]
end Go.Proofs.YtibegnjaphohaaaDoor.Sha
end
section
namespace Go.Proofs.YtibegnjaphohaaaDoor.Sha
open Go Go.RowKit
open Rely Auto Own
theorem Qnx (key : List Int) (v:Value) (B:Nat) (tc tq:TypeId) (w:World) (hc:w.heap[2]? = some (.cells (ints .u64 QaN) tc)) (hq:w.heap[1]? = some (.cells (ints .u64 Qam) tq)) (hkb:Qat key) (hkl:key.length≤800000000) (hk:RdK .u8 B key v w) :
  Calls Tryd.prog 69 #[v] w (Ret w (.tuple #[.agg (ints .u8 (padX 54 key)),.agg (ints .u8 (padX 92 key))])):=by
 obtain ⟨a_key,c_key,rfl,-⟩:=id hk
 refine enter 35 [(0,.slice a_key key.length c_key)] Tryd.func69 rfl rfl kj rfl <| sgC fun K3 hK3=>Qap (ints .u8 (List.replicate 64 0)) 107 2 rfl kj kj fun g4 W1 l4 e1 r4_1=>?_
 have x1:=Ext.tr (Rely.Ext.refl w) e1
 have b4:=qT (Rely.Ext.refl w).size l4
 refine Qap (ints .u8 (List.replicate 64 0)) 107 3 rfl kj kj fun g5 W2 l5 e2 r5_2=>?_
 have x2:=Ext.tr x1 e2
 have b5:=qT x1.size l5
 refine sgN hK3 <| wp_seq_k fun K6 hK6=>sgB kj <| Qa3 (t:=decide (((key.length:Nat):Int)>64)) kj (fun c8=>?_) (fun c8=>?_)
 ·skip
  have hlong:64<key.length:=by have:=of_decide_eq_true c8; omega
  refine sgC fun K9 hK9=>sg 1 kj <| QaL (#[.slice a_key key.length c_key]) 38 1 11 rfl kj kj fun g10 W3 l10 e3 r10_3=>?_
  have x3:=Ext.tr x2 e3
  have b10:=qT x2.size l10
  have hps11:∀ p∈([(.slice a_key key.length c_key,key)]:List (Value×List Int)),RdK .u8 W3.heap.size p.2 p.1 W3∧Qat p.2:=by
   intro p hp
   simp only [List.mem_cons,List.not_mem_nil,or_false] at hp
   rcases hp with rfl
   ·exact ⟨RdK.here (RdK.ext hk x3),hkb⟩
  have hsh11:=Qk8 g10 1 _ ([(.slice a_key key.length c_key,key)]:List (Value×List Int)) rfl (by decide) tc tq W3 (Qac (Qac (Qac hc e1) e2) e3) (Qac (Qac (Qac hq e1) e2) e3) r10_3 hps11 (by simp only [List.map_cons,List.map_nil,List.flatten_cons,List.flatten_nil,List.append_nil,List.length_append]; omega)
  rw [show ((List.map Prod.snd ([(.slice a_key key.length c_key,key)]:List (Value×List Int))).flatten)=key by simp only [List.map_cons,List.map_nil,List.flatten_cons,List.flatten_nil,List.append_nil]] at hsh11
  refine Qar (.agg (ints .u8 (dig (key)))) 73 #[.slice (some ⟨g10,0,none⟩) 1 1] 12 rfl kj kj hsh11 fun W4 e4=>?_
  have x4:=Ext.tr x3 e4
  refine Qap (ints .u8 (List.replicate 32 0)) 23 4 rfl kj kj fun g12 W5 l12 e5 r12_5=>?_
  have x5:=Ext.tr x4 e5
  refine Qaj g12 _ (ints .u8 (dig (key))) 23 r12_5 rfl kj (Qal 23 _ _ g12 23 _ _ r12_5 rfl kj kj (isz (n:=32) kj ((Qad _ _).trans (QaW _))) (eqsz (n:=32) ((Qad _ _).trans (List.length_replicate (n:=32))) ((Qad _ _).trans (QaW _))) (Qau _ _)) fun W6 p6 r12_6=>?_
  have x6:=Puts.ext p6 x5 (qT x4.size l12)
  refine sgN hK9 <| Qbe 2 [⟨none,[(2,none)]⟩,⟨none,[(4,none)]⟩] kj kj fun F hF=>Qa7 (Qas _) (.slice (some ⟨g4,0,none⟩) 64 64) kj kj (fun W=>by kernel_rfl) <| Qa7 (Qas _) (.slice (some ⟨g12,0,none⟩) 32 32) kj kj (fun W=>by kernel_rfl) <| Qdk (hF _ fun W7 e7=>?_)
  simp only [List.nil_append,List.cons_append,List.take_succ_cons,List.take_zero,List.drop_succ_cons,List.drop_zero,finE,up]
  clear hF
  have x7:=Ext.tr x6 e7
  have r4_2:=(Qac r4_1 e2)
  have r4_3:=(Qac r4_2 e3)
  have r4_4:=(Qac r4_3 e4)
  have r4_5:=(Qac r4_4 e5)
  have r4_6:=(Puts.row p6 r4_5 (Qae r4_4 l12))
  have r4_7:=(Qac r4_6 e7)
  have r12_7:=(Qac r12_6 e7)
  refine Qgb (k:=.u8) (e:=5) (z:=dig (key)) (.tmp 13) (.tmp 14) 38 38 15 rfl kj kj rfl kj (off:=0) (dl:=64) (dc:=64) (n:=32) (xs:=List.replicate 64 0) kj kj (QaU (xs:=dig (key)) (n:=32) (QaW _) r12_7 (Qay r12_7) (show 32≤maxLen from by decide)) r4_7 (qT (show 0+(64)≤64 from (by omega)) (qE (List.length_replicate (n:=64)).symm)) (by rw [QaW]; rfl) fun W8 p8 r4_8=>?_
  refine Qak <| hK6 _ _ <| wp_seq_k fun K13 hK13=>sgC fun K14 hK14=>?_
  have r4_8_15:W8.heap[g4]? = some (.cells (ints .u8 (keyB key)) 107):=Qbi r4_8 (Qje hlong)
  refine Qab (.agg (ints .u8 (keyB key))) 19 rfl kj (Qaq 107 _ g4 107 _ _ r4_8_15 rfl kj kj (isz (n:=64) kj ((Qad _ _).trans (Qbz key)))) <| sg 1 kj <| sgN hK14 <| wp_block ?_
  have n_4_5:g4≠g5:=(Qae r4_1 l5)
  have n_5_4:g5≠g4:=(Qa8 r4_1 l5)
  have r5_3:=(Qac r5_2 e3)
  have r5_4:=(Qac r5_3 e4)
  have r5_5:=(Qac r5_4 e5)
  have r5_6:=(Puts.row p6 r5_5 (Qae r5_4 l12))
  have r5_7:=(Qac r5_6 e7)
  refine QaC (fun (s1:Nat)=>[(2,.pointer (some ⟨g4,0,none⟩)),(3,.pointer (some ⟨g5,0,none⟩)),(19,.agg (ints .u8 (keyB key))),(20,.int .i64 ((s1:Nat):Int))]) (fun (s1:Nat) W=>(s1≤64)∧(W.heap[g4]? = some (.cells (ints .u8 (puts (padX 54 key) (keyB key) s1)) 107))∧(W.heap[g5]? = some (.cells (ints .u8 (fill (padX 92 key) 64 s1)) 107))∧(Qah [g4,g5] W8 W)∧(Ext w W)) (fun (s1:Nat)=>64-s1) 0 ⟨kj,kj,kj,kj,trivial⟩ ⟨(Nat.zero_le _),(Qbi r4_8_15 (Qgk _ _).symm),(Qbi (Puts.row p8 r5_7 n_5_4) (QeU _ 64).symm),(Qah.refl [g4,g5] W8),(Puts.ext p8 x7 b4)⟩ fun s1 X1 V1 hI1=>?_
  obtain ⟨i,hs1⟩:∃ z,z=s1:=⟨_,rfl⟩
  subst hs1
  obtain ⟨hi,q4_1,q5_1,kk1,xx1⟩:=hI1
  replace hi:i≤64:=hi
  replace q4_1:V1.heap[g4]? = some (.cells (ints .u8 (puts (padX 54 key) (keyB key) i)) 107):=q4_1
  replace q5_1:V1.heap[g5]? = some (.cells (ints .u8 (fill (padX 92 key) 64 i)) 107):=q5_1
  replace kk1:Qah [g4,g5] W8 V1:=kk1
  replace xx1:Ext w V1:=xx1
  have q9:=kk1
  refine sgB kj <| wp_seq_k fun K17 hK17=>Qa3 (t:=decide (((i:Nat):Int)<64)) kj (fun c18=>?_) (fun c18=>?_)
  ·skip
   have hlt21:i<64:=by have:=of_decide_eq_true c18; omega
   refine wp_skip <| hK17 _ _ <| wp_seq_k fun K19 hK19=>wp_block <| sgC fun K20 hK20=>sg 1 kj <| Qab (.int .u8 (nth (keyB key) i)) 23 rfl kj (QaF 107 _ _ .i64 .u8 (keyB key) i 64 5 (nth (keyB key) i) rfl kj kj kj kj kj (Qbz key) (by omega) rfl) <| sg 2 kj <| sgN hK20 <| Qaf ?_
   refine sg 3 kj <| Qab (.int .u8 (nth (padX 54 key) i)) 27 rfl kj (Qai (u:=.int .u8 (bits .xor .u8 ((nth (keyB key) i)) (54))) kj (congrArg (Value.int .u8) (Qc8 54 key hlt21).symm)) <| sg 1 kj <| Qab (.int .u8 (nth (padX 92 key) i)) 29 rfl kj (Qai (u:=.int .u8 (bits .xor .u8 ((nth (keyB key) i)) (92))) kj (congrArg (Value.int .u8) (Qc8 92 key hlt21).symm)) <| Qab (.pointer (some ⟨g4,i,none⟩)) 30 rfl kj (Qbl _ _ _ .i64 (i) _ 64 5 rfl kj kj kj kj (by omega)) <| Qaj g4 _ (ints .u8 ((puts (padX 54 key) (keyB key) i).set i (nth (padX 54 key) i))) 107 q4_1 rfl kj (Qao 5 _ _ g4 i 107 _ _ q4_1 rfl kj kj kj (Nat.lt_of_lt_of_eq (by omega) (Qhm (Qa9 54 key) (Qbz key) (by omega)).symm)) fun W10 p10 r4_10=>?_
   have x10:=Puts.ext p10 xx1 b4
   refine Qab (.pointer (some ⟨g5,i,none⟩)) 31 rfl kj (Qbl _ _ _ .i64 (i) _ 64 5 rfl kj kj kj kj (by omega)) ?_
   have r5_10:=(Puts.row p10 q5_1 n_5_4)
   refine Qaj g5 _ (ints .u8 ((fill (padX 92 key) 64 i).set i (nth (padX 92 key) i))) 107 r5_10 rfl kj (Qao 5 _ _ g5 i 107 _ _ r5_10 rfl kj kj kj (Nat.lt_of_lt_of_eq (by omega) (QbW (Qa9 92 key) (by omega)).symm)) fun W11 p11 r5_11=>?_
   have x11:=Puts.ext p11 x10 b5
   refine Qak <| hK19 _ _ <| Qaf <| Qab (.int .i64 ((i+1:Nat):Int)) 32 rfl kj (Qai (u:=.int .i64 (IntKind.i64.wrap (((i:Nat):Int)+1))) kj (congrArg (Value.int .i64) (i64n _ _ (by omega) (by omega)))) <| sg 1 kj <| Qak ?_
   have r4_11:=(Puts.row p11 r4_10 n_4_5)
   repeat (first | with_reducible refine goX1 ?_ | with_reducible refine goX2 ?_ | with_reducible refine goX3 ?_)
   exact Qa4 (i+1) ⟨kj,kj,kj,kj,trivial⟩ ⟨(by omega),(Qbi r4_11 (Qhl (Qa9 54 key) (Qbz key) hlt21)),(Qbi r5_11 (Qe1 (Qa9 92 key) hlt21)),(Qah.puts (Qah.puts q9 p10 (.inl (by simp))) p11 (.inl (by simp))),x11⟩ (by omega)
  ·skip
   have heq21:i=64:=by have:=of_decide_eq_false c18; omega
   have r4_9_21:V1.heap[g4]? = some (.cells (ints .u8 (padX 54 key)) 107):=Qbi q4_1 (by rw [heq21]; exact Qgl (Qa9 54 key) (Qbz key))
   have r5_9_22:V1.heap[g5]? = some (.cells (ints .u8 (padX 92 key)) 107):=Qbi q5_1 (by rw [heq21]; exact QeV (Qa9 92 key))
   refine wp_exit <| hK13 _ _ <| wp_seq_k fun K23 hK23=>Qb3 (fun W=>W.heap[g5]? = some (.cells (ints .u8 (padX 92 key)) 107)) [⟨none,[(2,none)]⟩,⟨none,[(3,none)]⟩,⟨none,[(2,none),(33,some 0)]⟩,⟨none,[(3,none),(34,some 1)]⟩] [] [1] kj kj kj (fun W hR=>Qac r5_9_22 hR) fun F hF=>Qiz (.agg (ints .u8 (padX 54 key))) kj kj kj rfl (fun W hR=>(Qaq 107 _ g4 107 _ _ (Qac (Qac r4_9_21 (Qaz _)) hR) rfl kj kj (isz (n:=64) kj ((Qad _ _).trans (Qa9 54 key))))) <| QcM (.agg (ints .u8 (padX 92 key))) kj kj kj rfl (fun W hW=>(Qaq 107 _ g5 107 _ _ hW rfl kj kj (isz (n:=64) kj ((Qad _ _).trans (Qa9 92 key))))) <| Qb6 rfl <| Qb6 rfl <| Qf1 (hF _ kj fun W10 e10=>?_)
   simp only [List.nil_append,List.cons_append,fins,up]
   clear hF
   have x10:=Ext.tr xx1 e10
   have r4_10:=(Qac r4_9_21 e10)
   have r5_10:=(Qac r5_9_22 e10)
   refine Qby _ g4 _ (ints .u8 (padX 54 key)) 107 r4_10 rfl (Qal 107 _ _ g4 107 _ _ r4_10 rfl kj kj (isz (n:=64) kj ((Qad _ _).trans (Qa9 54 key))) (eqsz (n:=64) ((Qad _ _).trans (Qa9 54 key)) ((Qad _ _).trans (Qa9 54 key))) (Qau _ _)) (fun W hp=>Puts.row hp r5_10 n_5_4) fun W11 p11 r4_11=>?_
   have x11:=Puts.ext p11 x10 b4
   have r5_11:=(Puts.row p11 r5_10 n_5_4)
   refine QfW _ g5 _ (ints .u8 (padX 92 key)) 107 r5_11 rfl (Qal 107 _ _ g5 107 _ _ r5_11 rfl kj kj (isz (n:=64) kj ((Qad _ _).trans (Qa9 92 key))) (eqsz (n:=64) ((Qad _ _).trans (Qa9 92 key)) ((Qad _ _).trans (Qa9 92 key))) (Qau _ _)) (fun W hp hrw=>hrw) fun W12 p12 r5_12=>QdA <| hK23 _ _ <| wp_ret ?_
   repeat (first | with_reducible refine goR1 ?_ | with_reducible refine goR2 ?_)
   exact (show bodyPost _ _ _ .ret _ _ from ret2 (.agg (ints .u8 (padX 54 key))) (.agg (ints .u8 (padX 92 key))) rfl (QaE g4 107 _ (Puts.row p12 r4_11 n_4_5) kj kj (isz (n:=64) kj ((Qad _ _).trans (Qa9 54 key)))) (QaE g5 107 _ r5_12 kj kj (isz (n:=64) kj ((Qad _ _).trans (Qa9 92 key)))) ⟨rfl,(Puts.ext p12 x11 b5)⟩)
 ·skip
  have hlong:¬ 64<key.length:=by have:=of_decide_eq_false c8; omega
  refine Qaf <| sg 2 kj ?_
  have r4_2:=(Qac r4_1 e2)
  refine Qgb (k:=.u8) (e:=5) (z:=key) (.tmp 16) (.tmp 17) 38 38 18 rfl kj kj rfl kj (off:=0) (dl:=64) (dc:=64) (n:=(min key.length 64)) (xs:=List.replicate 64 0) kj kj (RdK.ext hk x2) r4_2 (qT (show 0+(64)≤64 from (by omega)) (qE (List.length_replicate (n:=64)).symm)) rfl fun W3 p3 r4_3=>?_
  have x3:=Puts.ext p3 x2 b4
  refine Qak <| hK6 _ _ <| wp_seq_k fun K24 hK24=>sgC fun K25 hK25=>?_
  have r4_3_26:W3.heap[g4]? = some (.cells (ints .u8 (keyB key)) 107):=Qbi r4_3 (Qif hlong _ rfl)
  refine Qab (.agg (ints .u8 (keyB key))) 19 rfl kj (Qaq 107 _ g4 107 _ _ r4_3_26 rfl kj kj (isz (n:=64) kj ((Qad _ _).trans (Qbz key)))) <| sg 1 kj <| sgN hK25 <| wp_block ?_
  have n_4_5:g4≠g5:=(Qae r4_1 l5)
  have n_5_4:g5≠g4:=(Qa8 r4_1 l5)
  have r5_3:=(Puts.row p3 r5_2 n_5_4)
  refine QaC (fun (s2:Nat)=>[(2,.pointer (some ⟨g4,0,none⟩)),(3,.pointer (some ⟨g5,0,none⟩)),(19,.agg (ints .u8 (keyB key))),(20,.int .i64 ((s2:Nat):Int))]) (fun (s2:Nat) W=>(s2≤64)∧(W.heap[g4]? = some (.cells (ints .u8 (puts (padX 54 key) (keyB key) s2)) 107))∧(W.heap[g5]? = some (.cells (ints .u8 (fill (padX 92 key) 64 s2)) 107))∧(Qah [g4,g5] W3 W)∧(Ext w W)) (fun (s2:Nat)=>64-s2) 0 ⟨kj,kj,kj,kj,trivial⟩ ⟨(Nat.zero_le _),(Qbi r4_3_26 (Qgk _ _).symm),(Qbi r5_3 (QeU _ 64).symm),(Qah.refl [g4,g5] W3),x3⟩ fun s2 X2 V2 hI2=>?_
  obtain ⟨i,hs2⟩:∃ z,z=s2:=⟨_,rfl⟩
  subst hs2
  obtain ⟨hi,q4_2,q5_2,kk2,xx2⟩:=hI2
  replace hi:i≤64:=hi
  replace q4_2:V2.heap[g4]? = some (.cells (ints .u8 (puts (padX 54 key) (keyB key) i)) 107):=q4_2
  replace q5_2:V2.heap[g5]? = some (.cells (ints .u8 (fill (padX 92 key) 64 i)) 107):=q5_2
  replace kk2:Qah [g4,g5] W3 V2:=kk2
  replace xx2:Ext w V2:=xx2
  have q4:=kk2
  refine sgB kj <| wp_seq_k fun K28 hK28=>Qa3 (t:=decide (((i:Nat):Int)<64)) kj (fun c29=>?_) (fun c29=>?_)
  ·skip
   have hlt21:i<64:=by have:=of_decide_eq_true c29; omega
   refine wp_skip <| hK28 _ _ <| wp_seq_k fun K30 hK30=>wp_block <| sgC fun K31 hK31=>sg 1 kj <| Qab (.int .u8 (nth (keyB key) i)) 23 rfl kj (QaF 107 _ _ .i64 .u8 (keyB key) i 64 5 (nth (keyB key) i) rfl kj kj kj kj kj (Qbz key) (by omega) rfl) <| sg 2 kj <| sgN hK31 <| Qaf ?_
   refine sg 3 kj <| Qab (.int .u8 (nth (padX 54 key) i)) 27 rfl kj (Qai (u:=.int .u8 (bits .xor .u8 ((nth (keyB key) i)) (54))) kj (congrArg (Value.int .u8) (Qc8 54 key hlt21).symm)) <| sg 1 kj <| Qab (.int .u8 (nth (padX 92 key) i)) 29 rfl kj (Qai (u:=.int .u8 (bits .xor .u8 ((nth (keyB key) i)) (92))) kj (congrArg (Value.int .u8) (Qc8 92 key hlt21).symm)) <| Qab (.pointer (some ⟨g4,i,none⟩)) 30 rfl kj (Qbl _ _ _ .i64 (i) _ 64 5 rfl kj kj kj kj (by omega)) <| Qaj g4 _ (ints .u8 ((puts (padX 54 key) (keyB key) i).set i (nth (padX 54 key) i))) 107 q4_2 rfl kj (Qao 5 _ _ g4 i 107 _ _ q4_2 rfl kj kj kj (Nat.lt_of_lt_of_eq (by omega) (Qhm (Qa9 54 key) (Qbz key) (by omega)).symm)) fun W5 p5 r4_5=>?_
   have x5:=Puts.ext p5 xx2 b4
   refine Qab (.pointer (some ⟨g5,i,none⟩)) 31 rfl kj (Qbl _ _ _ .i64 (i) _ 64 5 rfl kj kj kj kj (by omega)) ?_
   have r5_5:=(Puts.row p5 q5_2 n_5_4)
   refine Qaj g5 _ (ints .u8 ((fill (padX 92 key) 64 i).set i (nth (padX 92 key) i))) 107 r5_5 rfl kj (Qao 5 _ _ g5 i 107 _ _ r5_5 rfl kj kj kj (Nat.lt_of_lt_of_eq (by omega) (QbW (Qa9 92 key) (by omega)).symm)) fun W6 p6 r5_6=>?_
   have x6:=Puts.ext p6 x5 b5
   refine Qak <| hK30 _ _ <| Qaf <| Qab (.int .i64 ((i+1:Nat):Int)) 32 rfl kj (Qai (u:=.int .i64 (IntKind.i64.wrap (((i:Nat):Int)+1))) kj (congrArg (Value.int .i64) (i64n _ _ (by omega) (by omega)))) <| sg 1 kj <| Qak ?_
   have r4_6:=(Puts.row p6 r4_5 n_4_5)
   repeat (first | with_reducible refine goX1 ?_ | with_reducible refine goX2 ?_ | with_reducible refine goX3 ?_)
   exact Qa4 (i+1) ⟨kj,kj,kj,kj,trivial⟩ ⟨(by omega),(Qbi r4_6 (Qhl (Qa9 54 key) (Qbz key) hlt21)),(Qbi r5_6 (Qe1 (Qa9 92 key) hlt21)),(Qah.puts (Qah.puts q4 p5 (.inl (by simp))) p6 (.inl (by simp))),x6⟩ (by omega)
  ·skip
   have heq21:i=64:=by have:=of_decide_eq_false c29; omega
   have r4_4_32:V2.heap[g4]? = some (.cells (ints .u8 (padX 54 key)) 107):=Qbi q4_2 (by rw [heq21]; exact Qgl (Qa9 54 key) (Qbz key))
   have r5_4_33:V2.heap[g5]? = some (.cells (ints .u8 (padX 92 key)) 107):=Qbi q5_2 (by rw [heq21]; exact QeV (Qa9 92 key))
   refine wp_exit <| hK24 _ _ <| wp_seq_k fun K34 hK34=>Qb3 (fun W=>W.heap[g5]? = some (.cells (ints .u8 (padX 92 key)) 107)) [⟨none,[(2,none)]⟩,⟨none,[(3,none)]⟩,⟨none,[(2,none),(33,some 0)]⟩,⟨none,[(3,none),(34,some 1)]⟩] [] [1] kj kj kj (fun W hR=>Qac r5_4_33 hR) fun F hF=>Qiz (.agg (ints .u8 (padX 54 key))) kj kj kj rfl (fun W hR=>(Qaq 107 _ g4 107 _ _ (Qac (Qac r4_4_32 (Qaz _)) hR) rfl kj kj (isz (n:=64) kj ((Qad _ _).trans (Qa9 54 key))))) <| QcM (.agg (ints .u8 (padX 92 key))) kj kj kj rfl (fun W hW=>(Qaq 107 _ g5 107 _ _ hW rfl kj kj (isz (n:=64) kj ((Qad _ _).trans (Qa9 92 key))))) <| Qb6 rfl <| Qb6 rfl <| Qf1 (hF _ kj fun W5 e5=>?_)
   simp only [List.nil_append,List.cons_append,fins,up]
   clear hF
   have x5:=Ext.tr xx2 e5
   have r4_5:=(Qac r4_4_32 e5)
   have r5_5:=(Qac r5_4_33 e5)
   refine Qby _ g4 _ (ints .u8 (padX 54 key)) 107 r4_5 rfl (Qal 107 _ _ g4 107 _ _ r4_5 rfl kj kj (isz (n:=64) kj ((Qad _ _).trans (Qa9 54 key))) (eqsz (n:=64) ((Qad _ _).trans (Qa9 54 key)) ((Qad _ _).trans (Qa9 54 key))) (Qau _ _)) (fun W hp=>Puts.row hp r5_5 n_5_4) fun W6 p6 r4_6=>?_
   have x6:=Puts.ext p6 x5 b4
   have r5_6:=(Puts.row p6 r5_5 n_5_4)
   refine QfW _ g5 _ (ints .u8 (padX 92 key)) 107 r5_6 rfl (Qal 107 _ _ g5 107 _ _ r5_6 rfl kj kj (isz (n:=64) kj ((Qad _ _).trans (Qa9 92 key))) (eqsz (n:=64) ((Qad _ _).trans (Qa9 92 key)) ((Qad _ _).trans (Qa9 92 key))) (Qau _ _)) (fun W hp hrw=>hrw) fun W7 p7 r5_7=>?_
   have x7:=Puts.ext p7 x6 b5
   refine QdA <| hK34 _ _ <| wp_ret ?_
   repeat (first | with_reducible refine goR1 ?_ | with_reducible refine goR2 ?_)
   have r4_7:=(Puts.row p7 r4_6 n_4_5)
   exact (show bodyPost _ _ _ .ret _ _ from ret2 (.agg (ints .u8 (padX 54 key))) (.agg (ints .u8 (padX 92 key))) rfl (QaE g4 107 _ r4_7 kj kj (isz (n:=64) kj ((Qad _ _).trans (Qa9 54 key)))) (QaE g5 107 _ r5_7 kj kj (isz (n:=64) kj ((Qad _ _).trans (Qa9 92 key)))) ⟨rfl,x7⟩)
end Go.Proofs.YtibegnjaphohaaaDoor.Sha
end
section
namespace Go.Proofs.YtibegnjaphohaaaDoor.Sha
open Go Go.RowKit
open Rely Auto Own
theorem tagC (key : List Int) (v:Value) (B:Nat) (gp n:Nat) (Tp:TypeId) (ps:List (Value×List Int)) (hn:ps.length=n) (hn9:n≤1000000) (tc tq:TypeId) (w:World) (hc:w.heap[2]? = some (.cells (ints .u64 QaN) tc)) (hq:w.heap[1]? = some (.cells (ints .u64 Qam) tq)) (hkb:Qat key) (hkl:key.length≤800000000) (hk:RdK .u8 B key v w) (hrow:w.heap[gp]? = some (.cells (ps.map Prod.fst).toArray Tp)) (hps:∀ p∈ps,RdK .u8 w.heap.size p.2 p.1 w∧Qat p.2) (hlen:((ps.map Prod.snd).flatten).length≤800000000) :
  Calls Tryd.prog 67 #[v,.slice (some ⟨gp,0,none⟩) n n] w (Ret w (.agg (ints .u8 (hmac key ((ps.map Prod.snd).flatten))))):=by
 obtain ⟨a_key,c_key,rfl,-⟩:=id hk
 refine enter 36 [(0,.slice a_key key.length c_key),(1,.slice (some ⟨gp,0,none⟩) n n)] Tryd.func67 rfl rfl kj rfl <| sgC fun K4 hK4=>Qap (ints .u8 (List.replicate 32 0)) 23 4 rfl kj kj fun g5 W1 l5 e1 r5_1=>?_
 have x1:=Ext.tr (Rely.Ext.refl w) e1
 refine sgN hK4 <| sgC fun K6 hK6=>sg 1 kj ?_
 have r1_1:=(Qac hc e1)
 have r2_1:=(Qac hq e1)
 refine Qar (.tuple #[.agg (ints .u8 (padX 54 key)),.agg (ints .u8 (padX 92 key))]) 69 #[.slice a_key key.length c_key] 13 rfl kj kj (Qnx key _ B tc tq _ r1_1 r2_1 hkb (by omega) (RdK.ext hk x1)) fun W2 e2=>?_
 have x2:=Ext.tr x1 e2
 refine sg 3 kj <| Qap (ints .u8 (List.replicate 64 0)) 107 5 rfl kj kj fun g7 W3 l7 e3 r7_3=>?_
 have x3:=Ext.tr x2 e3
 refine Qap (ints .u8 (List.replicate 64 0)) 107 6 rfl kj kj fun g8 W4 l8 e4 r8_4=>?_
 have r7_4:=(Qac r7_3 e4)
 refine Qaj g7 _ (ints .u8 (padX 54 key)) 107 r7_4 rfl kj (Qal 107 _ _ g7 107 _ _ r7_4 rfl kj kj (isz (n:=64) kj ((Qad _ _).trans (Qa9 54 key))) (eqsz (n:=64) ((Qad _ _).trans (List.length_replicate (n:=64))) ((Qad _ _).trans (Qa9 54 key))) (Qau _ _)) fun W5 p5 r7_5=>?_
 have r8_5:=(Puts.row p5 r8_4 (Qa8 r7_3 l8))
 refine Qaj g8 _ (ints .u8 (padX 92 key)) 107 r8_5 rfl kj (Qal 107 _ _ g8 107 _ _ r8_5 rfl kj kj (isz (n:=64) kj ((Qad _ _).trans (Qa9 92 key))) (eqsz (n:=64) ((Qad _ _).trans (List.length_replicate (n:=64))) ((Qad _ _).trans (Qa9 92 key))) (Qau _ _)) fun W6 p6 r8_6=>?_
 have x6:=Puts.ext p6 (Puts.ext p5 (Ext.tr x3 e4) (qT x2.size l7)) (qT x3.size l8)
 refine sgN hK6 <| sgC fun K9 hK9=>?_
 have r2_2:=(Qac r2_1 e2)
 have r2_3:=(Qac r2_2 e3)
 have r2_6:=(Puts.row p6 (Puts.row p5 (Qac r2_3 e4) (Qae r2_2 l7)) (Qae r2_3 l8))
 refine Qa6 (fun v W'=>(fun v W=>∃ g,v=.pointer (some ⟨g,0,none⟩)∧W6.heap.size≤g∧HasD g [] W) v W'∧Ext W6 W') 70 #[] 16 rfl kj kj ((newC tq _ r2_6).mono (by rintro e w' ⟨v,rfl,e1,hv⟩; exact ⟨v,rfl,hv,e1⟩)) fun vv10 W7 hh10=>?_
 obtain ⟨hv10,e7⟩:=hh10
 obtain ⟨gd11,rfl,ld11,hD11⟩:=hv10
 have b11:=qT x6.size ld11
 refine sg 1 kj <| sgN hK9 <| sgC fun K12 hK12=>sg 2 kj ?_
 have r1_2:=(Qac r1_1 e2)
 have r1_3:=(Qac r1_2 e3)
 have r1_6:=(Puts.row p6 (Puts.row p5 (Qac r1_3 e4) (Qae r1_2 l7)) (Qae r1_3 l8))
 have r1_7:=(Qac r1_6 e7)
 have r7_6:=(Puts.row p6 r7_5 (Qae r7_3 l8))
 have r7_7:=(Qac r7_6 e7)
 refine Qa6 (fun v W'=>v=.tuple #[]∧ExtB gd11 W7 W'∧HasD gd11 (padX 54 key) W') 71 #[.pointer (some ⟨gd11,0,none⟩),.slice (some ⟨g7,0,none⟩) 64 64] 19 rfl kj kj ((addC gd11 _ [] (padX 54 key) (.slice (some ⟨g7,0,none⟩) 64 64) tc _ r1_7 (Nat.ne_of_lt (qL (Qay hc) b11)) (.inr (fun e=>(Qae r7_6 ld11) (Option.some.inj e))) (Qcw _ _) (by rw [Qa9]; decide) (hD11) (QaU (xs:=padX 54 key) (n:=64) (Qa9 54 key) r7_7 (Qay r7_7) (show 64≤maxLen from by decide))).mono fun e w' h=>⟨_,h.1,rfl,h.2⟩) fun v W8 h=>?_
 obtain ⟨rfl,q8,hDp⟩:=h
 refine sgN hK12 <| wp_seq_k fun K13 hK13=>sgB kj <| wp_block <| QaC (fun (s1:Nat)=>[(20,.slice (some ⟨gp,0,none⟩) n n),(21,.int .i64 ((n:Nat):Int)),(22,.int .i64 ((s1:Nat):Int)),(7,.pointer (some ⟨gd11,0,none⟩)),(4,.pointer (some ⟨g5,0,none⟩)),(6,.pointer (some ⟨g8,0,none⟩))]) (fun (s1:Nat) W=>(s1≤n)∧(HasD gd11 (padX 54 key++flat ps s1) W)∧(Qah [gd11] W8 W)∧(Ext w W)) (fun (s1:Nat)=>n-s1) 0 ⟨kj,kj,kj,kj,kj,kj,trivial⟩ ⟨(Nat.zero_le _),(show HasD _ (padX 54 key++flat ps 0) _ from (List.append_nil (padX 54 key)).symm▸hDp),(Qah.refl [gd11] W8),(ExtB.up (Ext.tr x6 e7) q8 b11)⟩ fun s1 X1 V1 hI1=>?_
 obtain ⟨i,hs1⟩:∃ z,z=s1:=⟨_,rfl⟩
 subst hs1
 obtain ⟨hi,hDi,kk1,xx1⟩:=hI1
 replace hi:i≤n:=hi
 replace hDi:HasD gd11 (padX 54 key++flat ps i) V1:=hDi
 replace kk1:Qah [gd11] W8 V1:=kk1
 replace xx1:Ext w V1:=xx1
 have q9:=kk1
 refine sgB kj <| wp_seq_k fun K16 hK16=>Qa3 (t:=decide (((i:Nat):Int)<((n:Nat):Int))) kj (fun c17=>?_) (fun c17=>?_)
 ·skip
  have hlt23:i<n:=by have:=of_decide_eq_true c17; omega
  refine wp_skip <| hK16 _ _ <| wp_seq_k fun K18 hK18=>wp_block <| sgC fun K19 hK19=>?_
  have hi2:i<ps.length:=by omega
  refine Qab (.pointer (some ⟨gp,i,none⟩)) 24 rfl kj (Qbb 121 _ _ .i64 i gp n n 38 rfl kj kj kj kj hlt23) ?_
  have r3_2:=(Qac (Qac hrow e1) e2)
  have r3_3:=(Qac r3_2 e3)
  have r3_6:=(Puts.row p6 (Puts.row p5 (Qac r3_3 e4) (Qae r3_2 l7)) (Qae r3_3 l8))
  refine Qab ((pat ps i).1) 25 rfl kj (QaH 38 _ _ ((pat ps i).1) (QcO (Qah.row q9 (ExtB.row q8 (Qac r3_6 e7) (Qae r3_6 ld11)) (Qax (Qae r3_6 ld11) QaJ)) (QkB hi2)) rfl kj kj) <| sg 1 kj <| sgN hK19 <| Qaf <| sg 2 kj ?_
  have r1_8:=(ExtB.row q8 r1_7 (Qae r1_6 ld11))
  have r1_9:=(Qah.row q9 r1_8 (Qax (Qae r1_6 ld11) QaJ))
  have hp6:=(hps _ (QfA hi2)).1.ext xx1
  have hl6:=Qjq hi2
  refine Qa6 (fun v W'=>v=.tuple #[]∧ExtB gd11 V1 W'∧HasD gd11 ((padX 54 key++flat ps i)++(pat ps i).2) W') 71 #[.pointer (some ⟨gd11,0,none⟩),(pat ps i).1] 28 rfl kj kj ((addC gd11 _ _ _ _ tc _ r1_9 (Nat.ne_of_lt (qL (Qay hc) b11)) (hp6.nb b11) (hps _ (QfA hi2)).2 (by rw [List.length_append,Qa9]; omega) hDi hp6).mono fun e w' h=>⟨_,h.1,rfl,h.2⟩) fun v W10 h=>?_
  obtain ⟨rfl,q10,hDn⟩:=h
  have x10:=ExtB.up xx1 q10 b11
  refine Qak <| hK18 _ _ <| Qaf <| Qab (.int .i64 ((i+1:Nat):Int)) 29 rfl kj (Qai (u:=.int .i64 (IntKind.i64.wrap (((i:Nat):Int)+1))) kj (congrArg (Value.int .i64) (i64n _ _ (by omega) (by omega)))) <| sg 1 kj <| Qak ?_
  repeat (first | with_reducible refine goX1 ?_ | with_reducible refine goX2 ?_ | with_reducible refine goX3 ?_)
  exact Qa4 (i+1) ⟨kj,kj,kj,kj,kj,kj,trivial⟩ ⟨(by omega),(by rw [QeQ hi2,←List.append_assoc]; exact hDn),(Qah.but q9 q10 (.inl (by simp))),x10⟩ (by omega)
 ·skip
  have heq23:i=n:=by have:=of_decide_eq_false c17; omega
  refine wp_exit <| hK13 _ _ <| sgC fun K20 hK20=>sg 1 kj ?_
  have r1_8:=(ExtB.row q8 r1_7 (Qae r1_6 ld11))
  have r1_9:=(Qah.row q9 r1_8 (Qax (Qae r1_6 ld11) QaJ))
  refine Qar (.agg (ints .u8 (dig (padX 54 key++flat ps i)))) 72 #[.pointer (some ⟨gd11,0,none⟩)] 31 rfl kj kj (sumC gd11 _ tc _ r1_9 (by rw [heq23,QdK hn,List.length_append,Qa9]; omega) hDi) fun W10 e10=>?_
  have x10:=Ext.tr xx1 e10
  refine Qap (ints .u8 (List.replicate 32 0)) 23 10 rfl kj kj fun g21 W11 l21 e11 r21_11=>Qaj g21 _ (ints .u8 (dig (padX 54 key++flat ps i))) 23 r21_11 rfl kj (Qal 23 _ _ g21 23 _ _ r21_11 rfl kj kj (isz (n:=32) kj ((Qad _ _).trans (QaW _))) (eqsz (n:=32) ((Qad _ _).trans (List.length_replicate (n:=32))) ((Qad _ _).trans (QaW _))) (Qau _ _)) fun W12 p12 r21_12=>sgN hK20 <| wp_seq_k fun K22 hK22=>Qbe 2 [⟨none,[(6,none)]⟩,⟨none,[(10,none)]⟩] kj kj fun F hF=>Qa7 (Qas _) (.slice (some ⟨g8,0,none⟩) 64 64) kj kj (fun W=>by kernel_rfl) <| Qa7 (Qas _) (.slice (some ⟨g21,0,none⟩) 32 32) kj kj (fun W=>by kernel_rfl) <| Qdk (hF _ fun W13 e13=>?_)
  simp only [List.nil_append,List.cons_append,List.take_succ_cons,List.take_zero,List.drop_succ_cons,List.drop_zero,finE,up]
  clear hF
  have x13:=Ext.tr (Puts.ext p12 (Ext.tr x10 e11) (qT x10.size l21)) e13
  refine QaL (#[.slice (some ⟨g8,0,none⟩) 64 64,.slice (some ⟨g21,0,none⟩) 32 32]) 38 2 34 rfl kj kj fun g23 W14 l23 e14 r23_14=>?_
  have b23:=qT x13.size l23
  have r8_10:=(Qac (Qah.row q9 (ExtB.row q8 (Qac r8_6 e7) (Qae r8_6 ld11)) (Qax (Qae r8_6 ld11) QaJ)) e10)
  have r8_14:=(Qac (Qac (Puts.row p12 (Qac r8_10 e11) (Qae r8_10 l21)) e13) e14)
  have r21_14:=(Qac (Qac r21_12 e13) e14)
  have r1_10:=(Qac r1_9 e10)
  have r2_10:=(Qac (Qah.row q9 (ExtB.row q8 (Qac r2_6 e7) (Qae r2_6 ld11)) (Qax (Qae r2_6 ld11) QaJ)) e10)
  have hps24:∀ p∈([(.slice (some ⟨g8,0,none⟩) 64 64,padX 92 key),(.slice (some ⟨g21,0,none⟩) 32 32,dig (padX 54 key++flat ps i))]:List (Value×List Int)),RdK .u8 W14.heap.size p.2 p.1 W14∧Qat p.2:=by
   intro p hp
   simp only [List.mem_cons,List.not_mem_nil,or_false] at hp
   rcases hp with rfl | rfl
   ·exact ⟨RdK.here (QaU (xs:=padX 92 key) (n:=64) (Qa9 92 key) r8_14 (Qay r8_14) (show 64≤maxLen from by decide)),(Qcw _ _)⟩
   ·exact ⟨RdK.here (QaU (xs:=dig (padX 54 key++flat ps i)) (n:=32) (QaW _) r21_14 (Qay r21_14) (show 32≤maxLen from by decide)),(QdN _)⟩
  have hsh24:=Qk8 g23 2 _ ([(.slice (some ⟨g8,0,none⟩) 64 64,padX 92 key),(.slice (some ⟨g21,0,none⟩) 32 32,dig (padX 54 key++flat ps i))]:List (Value×List Int)) rfl (by decide) tc tq W14 (Qac (Qac (Puts.row p12 (Qac r1_10 e11) (Qae r1_10 l21)) e13) e14) (Qac (Qac (Puts.row p12 (Qac r2_10 e11) (Qae r2_10 l21)) e13) e14) r23_14 hps24 (by simp only [List.map_cons,List.map_nil,List.flatten_cons,List.flatten_nil,List.append_nil,List.length_append,(QaW _),(Qa9 92 key)]; omega)
  rw [show ((List.map Prod.snd ([(.slice (some ⟨g8,0,none⟩) 64 64,padX 92 key),(.slice (some ⟨g21,0,none⟩) 32 32,dig (padX 54 key++flat ps i))]:List (Value×List Int))).flatten)=(padX 92 key)++(dig (padX 54 key++flat ps i)) by simp only [List.map_cons,List.map_nil,List.flatten_cons,List.flatten_nil,List.append_nil]] at hsh24
  refine Qar (.agg (ints .u8 (dig ((padX 92 key)++(dig (padX 54 key++flat ps i)))))) 73 #[.slice (some ⟨g23,0,none⟩) 2 2] 35 rfl kj kj hsh24 fun W15 e15=>?_
  have r5_2:=(Qac r5_1 e2)
  have r5_3:=(Qac r5_2 e3)
  have r5_6:=(Puts.row p6 (Puts.row p5 (Qac r5_3 e4) (Qae r5_2 l7)) (Qae r5_3 l8))
  have r5_10:=(Qac (Qah.row q9 (ExtB.row q8 (Qac r5_6 e7) (Qae r5_6 ld11)) (Qax (Qae r5_6 ld11) QaJ)) e10)
  have r5_15:=(Qac (Qac (Qac (Puts.row p12 (Qac r5_10 e11) (Qae r5_10 l21)) e13) e14) e15)
  refine Qaj g5 _ (ints .u8 (dig ((padX 92 key)++(dig (padX 54 key++flat ps i))))) 23 r5_15 rfl kj (Qal 23 _ _ g5 23 _ _ r5_15 rfl kj kj (isz (n:=32) kj ((Qad _ _).trans (QaW _))) (eqsz (n:=32) ((Qad _ _).trans (List.length_replicate (n:=32))) ((Qad _ _).trans (QaW _))) (Qau _ _)) fun W16 p16 r5_16=>sgN hK22 <| wp_ret ?_
  repeat (first | with_reducible refine goR1 ?_ | with_reducible refine goR2 ?_)
  exact (show bodyPost _ _ _ .ret _ _ from ret1 (.agg (ints .u8 (dig ((padX 92 key)++(dig (padX 54 key++flat ps i)))))) rfl (QaE g5 23 _ r5_16 kj kj (isz (n:=32) kj ((Qad _ _).trans (QaW _)))) ⟨by unfold hmac; rw [heq23,QdK hn],(Puts.ext p16 (Ext.tr (Ext.tr x13 e14) e15) (qT (Rely.Ext.refl w).size l5))⟩)
end Go.Proofs.YtibegnjaphohaaaDoor.Sha
end
section
namespace Go.Proofs.YtibegnjaphohaaaDoor.Auto
open Go Go.RowKit
open Rely Own
section
variable {P : Program} {w : World} {k kn : IntKind} {T : TypeId} {t tn ty : TypeId}
end
end Go.Proofs.YtibegnjaphohaaaDoor.Auto
end
section
namespace Go.Proofs.YtibegnjaphohaaaDoor.Sha
open Go Go.RowKit
open Rely Auto Own
theorem QbJ {a b:List Int} (ha:Qat a) (hb:Qat b):Qat (a++b):=fun x hx=>by
  rcases List.mem_append.1 hx with h | h
  · exact ha x h
  · exact hb x h
section
variable {ds : List Deferred} {P : Program} {ops : Array Oper} {Q : Exit → Act → World → Prop} {rest : List Oper} {o : Oper} {N : Nat} {L : Env} {W : World}
end
end Go.Proofs.YtibegnjaphohaaaDoor.Sha
end
section
namespace Go.Proofs.YtibegnjaphohaaaDoor.Sha
open Go Go.RowKit
open Rely Auto Own
def tg (key info:List Int):Nat→List Int
  | 0=>[]
  | i+1=>hmac key ((tg key info i++info)++[((i+1:Nat):Int)])
def okm (key info:List Int):Nat→List Int
  | 0=>[]
  | k+1=>okm key info k++tg key info (k+1)
theorem Qiv (key info:List Int) (i:Nat):(tg key info i).length≤32:=by
  cases i with
  | zero=>exact Nat.zero_le _
  | succ i=>exact qE (Qb2 _ _)
theorem Qf0 (key info:List Int) (i:Nat):Qat (tg key info i):=by
  cases i with
  | zero=>intro x hx; cases hx
  | succ i=>exact Qii _ _
theorem Qd3 (key info:List Int) (k:Nat):(okm key info k).length=32*k:=by
  induction k with
  | zero=>rfl
  | succ k ih=>rw [okm,List.length_append,ih,tg,Qb2]; omega
theorem Qkp (key info:List Int) (k n:Nat):decide ((((okm key info k).length:Nat):Int)<((n:Nat):Int))=decide (32*k<n):=by
  rw [Qd3]
  exact decide_eq_decide.2 (by omega)
theorem u8_n (k : Nat) (h:k+1≤255):IntKind.u8.wrap ((k+1:Nat):Int)=((k+1:Nat):Int):=by rw [Qj1]; omega
end Go.Proofs.YtibegnjaphohaaaDoor.Sha
end
section
namespace Go.Proofs.YtibegnjaphohaaaDoor.Sha
open Go Go.RowKit
open Rely Auto Own
theorem QhN (m : Nat) (gs:List Nat) (g1 g2 B:Nat) (key info:List Int) (a_key a_info:Option Addr) (c_key c_info:Nat) (tc tq:TypeId) (w:World) (hkl:key.length≤800000000) (hil:info.length≤700000000) (hkb:Qat key) (hib:Qat info)
  (hBw:B≤w.heap.size) (hgs:∀ c∈gs,B≤c) (hgl:∀ c∈gs,c<w.heap.size) (hkw:RdK .u8 B key (.slice a_key key.length c_key) w) (hiw:RdK .u8 B info (.slice a_info info.length c_info) w)
  (hcw:w.heap[2]? = some (.cells (ints .u64 QaN) tc)) (hqw:w.heap[1]? = some (.cells (ints .u64 Qam) tq)) (r1w:w.heap[g1]? = some (.cells #[.slice a_key key.length c_key] 38)) (r2w:w.heap[g2]? = some (.cells #[.slice a_info info.length c_info] 38)) (n1:g1∉gs) (n2:g2∉gs) (nc:2∉gs) (nq:1∉gs) :
  SeqStopsK Fence.wide m Tryd.prog 66 #[.pointer (some ⟨g1,0,none⟩),.pointer (some ⟨g2,0,none⟩)] (fun i:Nat=>#[Value.agg (ints .u8 (tg key info (i+1)))]) (QbM gs) (fun ys=>ys=List.range 255) (fun ys=>∃ k,ys=List.range k∧k≤255) 256 w:=fun l J Jx Wi hW hJ hJx hY h0=>by
 refine callsIn_wide.2 ?_
 have hwi:=hW.size
 have hBi:B≤Wi.heap.size:=qT hBw hwi
 have hk:=hkw.ext hW
 have hi:=hiw.ext hW
 have hc:=Qac hcw hW
 have hq:=Qac hqw hW
 refine enter 24 [(0,.func (.yield l) #[] #[]),(1,.pointer (some ⟨g1,0,none⟩)),(2,.pointer (some ⟨g2,0,none⟩))] Tryd.func66 rfl rfl kj rfl <| sgB kj <| sgB kj <| wp_block <| QaC (fun (s1:Nat×Value)=>[(0,.func (.yield l) #[] #[]),(1,.pointer (some ⟨g1,0,none⟩)),(2,.pointer (some ⟨g2,0,none⟩)),(4,s1.2),(5,.int .i64 ((s1.1+1:Nat):Int))]) (fun (s1:Nat×Value) W=>(s1.1≤255)∧(J (List.range s1.1) W)∧(W.heap[g1]? = some (.cells #[.slice a_key key.length c_key] 38))∧(W.heap[g2]? = some (.cells #[.slice a_info info.length c_info] 38))∧(W.heap[2]? = some (.cells (ints .u64 QaN) tc))∧(W.heap[1]? = some (.cells (ints .u64 Qam) tq))∧(RdK .u8 B key (.slice a_key key.length c_key) W)∧(RdK .u8 B info (.slice a_info info.length c_info) W)∧(OwnN .u8 23 Wi.heap.size (tg key info s1.1) s1.2 W)∧(Grew Wi W)) (fun (s1:Nat×Value)=>255-s1.1) (0,(.slice none 0 0)) ⟨kj,kj,kj,kj,kj,trivial⟩ ⟨(by decide),(show J (List.range 0) _ from h0),(Qac r1w hW),(Qac r2w hW),hc,hq,hk,hi,(Qb7 _ _ _ _),(Grew.refl Wi)⟩ fun s1 X1 V1 hI1=>?_
 obtain ⟨k,v⟩:=s1
 obtain ⟨hkl_,hJ1,rr1,rr2,rrc,rrq,hk1,hi1,hv,xx1⟩:=hI1
 replace hkl_:k≤255:=hkl_
 replace hJ1:J (List.range k) V1:=hJ1
 replace rr1:V1.heap[g1]? = some (.cells #[.slice a_key key.length c_key] 38):=rr1
 replace rr2:V1.heap[g2]? = some (.cells #[.slice a_info info.length c_info] 38):=rr2
 replace rrc:V1.heap[2]? = some (.cells (ints .u64 QaN) tc):=rrc
 replace rrq:V1.heap[1]? = some (.cells (ints .u64 Qam) tq):=rrq
 replace hk1:RdK .u8 B key (.slice a_key key.length c_key) V1:=hk1
 replace hi1:RdK .u8 B info (.slice a_info info.length c_info) V1:=hi1
 replace hv:OwnN .u8 23 Wi.heap.size (tg key info k) v V1:=hv
 replace xx1:Grew Wi V1:=xx1
 obtain ⟨a4,c4,rfl,-⟩:=id (OwnN.rd hv)
 refine wp_seq_k fun K7 hK7=>sgB kj <| Qa3 (t:=decide (((k+1:Nat):Int)≤255)) kj (fun c9=>?_) (fun c9=>?_)
 ·skip
  have hlt:k+1≤255:=by have:=of_decide_eq_true c9; omega
  have htl:=Qiv key info k
  have hl1:[((k+1:Nat):Int)].length=1:=rfl
  refine wp_skip <| hK7 _ _ <| wp_seq_k fun K10 hK10=>wp_block <| sgC fun K11 hK11=>Qab (.slice a_key key.length c_key) 11 rfl kj (Qag 38 _ g1 0 38 _ (.slice a_key key.length c_key) _ rr1 rfl kj kj kj) <| sg 1 kj <| Qab (.slice a_info info.length c_info) 13 rfl kj (Qag 38 _ g2 0 38 _ (.slice a_info info.length c_info) _ rr2 rfl kj kj kj) <| sg 1 kj <| Qab (.int .u8 (((k+1:Nat):Int))) 15 rfl kj (Qai (u:=.int .u8 (IntKind.u8.wrap ((k+1:Nat):Int))) kj (congrArg (Value.int .u8) (u8_n _ (by omega)))) ?_
  refine QaL (ints .u8 ([(((k+1:Nat):Int))])) 5 1 16 rfl kj kj fun g12 W2 l12 e2 r12_2=>?_
  have x2:=Grew.ext xx1 e2
  have b12:=qT xx1.size l12
  refine QaL (#[.slice a4 ((tg key info k).length) c4,.slice a_info info.length c_info,.slice (some ⟨g12,0,none⟩) 1 1]) 38 3 17 rfl kj kj fun g13 W3 l13 e3 r13_3=>?_
  have b13:=qT x2.size l13
  have f16_3:=((hk1.ext e2).ext e3)
  have f20_3:=((hi1.ext e2).ext e3)
  have r12_3:=(Qac r12_2 e3)
  have r1_3:=(Qac (Qac rrc e2) e3)
  have r2_3:=(Qac (Qac rrq e2) e3)
  have hps14:∀ p∈([(.slice a4 ((tg key info k).length) c4,tg key info k),(.slice a_info info.length c_info,info),(.slice (some ⟨g12,0,none⟩) 1 1,[(((k+1:Nat):Int))])]:List (Value×List Int)),RdK .u8 W3.heap.size p.2 p.1 W3∧Qat p.2:=by
   intro p hp
   simp only [List.mem_cons,List.not_mem_nil,or_false] at hp
   rcases hp with rfl | rfl | rfl
   ·exact ⟨RdK.here (OwnN.rd ((hv.ext e2).ext e3)),(Qf0 _ _ _)⟩
   ·exact ⟨RdK.here f20_3,hib⟩
   ·exact ⟨RdK.here (QaU (xs:=[(((k+1:Nat):Int))]) (n:=1) rfl r12_3 (Qay r12_3) (show 1≤maxLen from by decide)),(fun x hx=>by rw [List.mem_singleton] at hx; subst hx; omega)⟩
  have htg14:=tagC (key) (.slice a_key key.length c_key) _ g13 3 _ ([(.slice a4 ((tg key info k).length) c4,tg key info k),(.slice a_info info.length c_info,info),(.slice (some ⟨g12,0,none⟩) 1 1,[(((k+1:Nat):Int))])]:List (Value×List Int)) rfl (by decide) tc tq W3 r1_3 r2_3 hkb (by omega) f16_3 r13_3 hps14 (by simp only [List.map_cons,List.map_nil,List.flatten_cons,List.flatten_nil,List.append_nil,List.length_append]; omega)
  rw [show ((List.map Prod.snd ([(.slice a4 ((tg key info k).length) c4,tg key info k),(.slice a_info info.length c_info,info),(.slice (some ⟨g12,0,none⟩) 1 1,[(((k+1:Nat):Int))])]:List (Value×List Int))).flatten)=(tg key info k)++info++([(((k+1:Nat):Int))]) by simp only [List.map_cons,List.map_nil,List.flatten_cons,List.flatten_nil,List.append_nil,List.append_assoc]] at htg14
  refine Qar (.agg (ints .u8 (hmac (key) ((tg key info k)++info++([(((k+1:Nat):Int))]))))) 67 #[.slice a_key key.length c_key,.slice (some ⟨g13,0,none⟩) 3 3] 18 rfl kj kj htg14 fun W4 e4=>?_
  have x4:=Grew.ext (Grew.ext x2 e3) e4
  refine Qap (ints .u8 (List.replicate 32 0)) 23 6 rfl kj kj fun g21 W5 l21 e5 r21_5=>?_
  have b21:=qT x4.size l21
  refine Qaj g21 _ (ints .u8 (hmac (key) ((tg key info k)++info++([(((k+1:Nat):Int))])))) 23 r21_5 rfl kj (Qal 23 _ _ g21 23 _ _ r21_5 rfl kj kj (isz (n:=32) kj ((Qad _ _).trans (Qb2 _ _))) (eqsz (n:=32) ((Qad _ _).trans (List.length_replicate (n:=32))) ((Qad _ _).trans (Qb2 _ _))) (Qau _ _)) fun W6 p6 r21_6=>?_
  have r21_6_22:W6.heap[g21]? = some (.cells (ints .u8 (tg key info (k+1))) 23):=Qbi r21_6 rfl
  refine sgN hK11 <| wp_seq_k fun K23 hK23=>wp_seq_k fun K24 hK24=>(wpIn_wide (n:=m)).1 <| Qdb <| Qel (.func (.yield l) #[] #[]) 19 rfl (Qcx _ _) rfl kj kj <| Qel (.agg (ints .u8 (tg key info (k+1)))) 20 rfl (Qcx _ _) rfl kj (Qaq 23 _ g21 23 _ _ r21_6_22 rfl kj kj (isz (n:=32) kj ((Qad _ _).trans (Qb2 _ _)))) ?_
  have y1_4:=(Rely.Ext.trans (Rely.Ext.trans (Rely.Ext.trans (Rely.Ext.refl V1) e2) e3) e4)
  refine Qki (m:=m) (l:=l) (args:=#[.agg (ints .u8 (tg key info (k+1)))]) 21 rfl rfl kj kj (hY (List.range k) k W6 (Qio hJ hJ1 (Puts.ext p6 (Rely.Ext.trans y1_4 e5) (qT y1_4.size l21))) (by rw [List.length_range]; omega)) (fun W' hA=>?_) (fun W' hA=>?_)
  ·skip
   obtain ⟨W7,hW7⟩:∃ z,z=W':=⟨_,rfl⟩
   rw [←hW7] at hA ⊢
   obtain ⟨hj25,hk25⟩:=hA
   refine Qel (.bool false) 22 rfl (Qcx _ _) rfl kj kj <| Qg0 <| hK24 _ _ <| cond_false kj <| wp_skip <| hK23 _ _ <| sgA kj <| hK10 _ _ <| Qaf <| sg 1 kj ?_
   refine Qab (.int .i64 (((k+1)+1:Nat):Int)) 10 rfl kj (Qai (u:=.int .i64 (IntKind.i64.wrap (((k+1:Nat):Int)+1))) kj (congrArg (Value.int .i64) (i64n _ _ (by omega) (by omega)))) <| sg 1 kj <| Qak ?_
   have r3_4:=(Qac (Qac (Qac rr1 e2) e3) e4)
   have r4_4:=(Qac (Qac (Qac rr2 e2) e3) e4)
   have r1_4:=(Qac r1_3 e4)
   have r2_4:=(Qac r2_3 e4)
   have r21_7:=(QbM.row hk25 r21_6_22 (fun hm=>by have h1:=hgl _ hm; have h2:=b21; omega))
   repeat (first | with_reducible refine goX1 ?_ | with_reducible refine goX2 ?_ | with_reducible refine goX3 ?_)
   exact Qa4 ((k+1),.slice (some ⟨g21,0,none⟩) 32 32) ⟨kj,kj,kj,kj,kj,trivial⟩ ⟨(by omega),(by rw [List.range_succ]; exact hj25),(QbM.row hk25 (Puts.row p6 (Qac r3_4 e5) (Qae r3_4 l21)) n1),(QbM.row hk25 (Puts.row p6 (Qac r4_4 e5) (Qae r4_4 l21)) n2),(QbM.row hk25 (Puts.row p6 (Qac r1_4 e5) (Qae r1_4 l21)) nc),(QbM.row hk25 (Puts.row p6 (Qac r2_4 e5) (Qae r2_4 l21)) nq),(RdK.keepC (((f16_3.ext e4).ext e5).puts p6 (qT hBi b21)) hk25 hgs),(RdK.keepC (((f20_3.ext e4).ext e5).puts p6 (qT hBi b21)) hk25 hgs),(QbU (xs:=tg key info (k+1)) (Qb2 _ _) b21 r21_7 (by decide)),(Grew.keepC (Grew.puts (Grew.ext x4 e5) p6) hk25)⟩ (by show 255-(k+1)<255-k; omega)
  ·skip
   obtain ⟨W7,hW7⟩:∃ z,z=W':=⟨_,rfl⟩
   rw [←hW7] at hA ⊢
   refine Qel (.bool true) 22 rfl (Qcx _ _) rfl kj kj <| Qg0 <| hK24 _ _ <| cond_true kj <| wp_ret ?_
   repeat (first | with_reducible refine goR1 ?_ | with_reducible refine goR2 ?_)
   exact (show bodyPost _ _ _ .ret _ _ from ret0 rfl ⟨⟨_,rfl⟩,.inr ⟨_,⟨k+1,List.range_succ.symm,hlt⟩,hA⟩⟩)
 ·skip
  have hke:k=255:=by have:=of_decide_eq_false c9; omega
  refine wp_exit ?_
  repeat (first | with_reducible refine goX1 ?_ | with_reducible refine goX2 ?_ | with_reducible refine goX3 ?_)
  exact (show bodyPost _ _ _ .normal _ _ from end0 rfl ⟨⟨_,rfl⟩,.inl ⟨_,congrArg List.range hke,hJ1⟩⟩)
end Go.Proofs.YtibegnjaphohaaaDoor.Sha
end
section
namespace Go.Proofs.YtibegnjaphohaaaDoor.Sha
open Go Go.RowKit
open Rely Auto Own
theorem Qi9 {P : Program} {ρ:Operand→Value} {o:Oper} {W:World} {k:IntKind} {e:TypeId} (x y:Operand) (tx ty:TypeId) (ho:o.op=.call { callee:=.builtin .copy,args:=#[x,y],argTypes:=#[tx,ty] }) (hu:P.underlying tx=some (.slice e)) (hsz:(P.info? e).map (·.size)=some 1)
    {g off dl dc n B:Nat} {xs z:List Int} {v:Value} {T:TypeId} (hx:ρ x=.slice (some ⟨g,off,none⟩) dl dc) (hy:ρ y=v) (hr:RdK k B z v W)
    (hg:W.heap[g]? = some (.cells (ints k xs) T)) (hq:off+dl≤xs.length) (hn:n=min z.length dl) :
    ∃ W':World,(execOp ρ o).run P W=.ok (.value (.int .i64 ((n:Nat):Int))) W'∧Puts W g W'∧W'.heap[g]? = some (.cells (ints k (xs.take off++z.take n++xs.drop (off+n))) T):=by
  obtain ⟨a,cap,rfl,y2,y3,y4,y5⟩:=hr
  have hgo:∀ W',(Builtin.copy_ #[tx,ty] o.type #[.slice (some ⟨g,off,none⟩) dl dc,.slice a z.length cap]).run P W=.ok (goInt n) W'→(execOp ρ o).run P W=.ok (.value (.int .i64 ((n:Nat):Int))) W':=fun W' h=>by
    unfold execOp
    simp only [ho,resolve,invoke,builtin,Sem.run_bind,Sem.run_pure,Result.andThen_ok,List.map_toArray,List.map_cons,List.map_nil,hx,hy,h,goInt]
  rcases Nat.eq_zero_or_pos n with h0 | h0
  · refine ⟨W,hgo W ?_,⟨rfl,rfl,rfl,rfl,fun _ _=>rfl⟩,?_⟩
    · rw [h0]; exact run_copy_none W tx ty o.type e _ _ _ _ _ _ hu hsz (hn.symm.trans h0)
    · rw [h0,List.take_zero,List.append_nil,Nat.add_zero,List.take_append_drop]; exact hg
  · obtain ⟨gz,oz,rfl,z2,z3,z4⟩:=y5.resolve_left (fun e=>by rw [e] at hn; simp at hn; omega)
    have hlen:((z.take n).map (Value.int k)).length=n:=by simp; omega
    have h:=run_copy_row (P:=P) W tx ty o.type e g off dl dc ⟨gz,oz,none⟩ z.length cap (ints k xs) T ((z.take n).map (Value.int k)) hu hsz hg (by rw [hlen]; exact hn)
      (QiV (k:=k) (ys:=z.take n) fun i hi=>by
        rw [List.length_take] at hi
        rw [z4 i (by omega)]
        simp [nth,show i<n by omega]) (by rw [hlen,Qad]; omega) (QiR k _)
    rw [hlen] at h
    have e1:((ints k xs).toList.take off++(z.take n).map (Value.int k)++(ints k xs).toList.drop (off+n)).toArray=ints k (xs.take off++z.take n++xs.drop (off+n)):=by
      apply Array.ext'
      show (xs.map (Value.int k)).take off++(z.take n).map (Value.int k)++(xs.map (Value.int k)).drop (off+n)=(xs.take off++z.take n++xs.drop (off+n)).map (Value.int k)
      simp only [List.map_append,List.map_take,List.map_drop]
    rw [e1] at h
    exact ⟨_,hgo _ h,Qbw _ _ _,setRow_heap _ _ _ _ _ _ hg⟩
theorem Qgh {P : Program} {ρ:Operand→Value} {o:Oper} {W:World} {k:IntKind} {e:TypeId} (x y:Operand) (tx ty:TypeId) (ho:o.op=.call { callee:=.builtin .copy,args:=#[x,y],argTypes:=#[tx,ty] }) (hu:P.underlying tx=some (.slice e)) (hsz:(P.info? e).map (·.size)=some 1)
    {g off dl dc n B:Nat} {xs ys z:List Int} {v:Value} {T:TypeId} (hx:ρ x=.slice (some ⟨g,off,none⟩) dl dc) (hy:ρ y=v) (hr:RdK k B z v W)
    (hg:W.heap[g]? = some (.cells (ints k xs) T)) (hq:off+dl≤xs.length) (hn:n=min z.length dl) (hY:xs.take off++z.take n++xs.drop (off+n)=ys) :
    ∃ W':World,(execOp ρ o).run P W=.ok (.value (.int .i64 ((n:Nat):Int))) W'∧Puts W g W'∧W'.heap[g]? = some (.cells (ints k ys) T):=hY▸Qi9 x y tx ty ho hu hsz hx hy hr hg hq hn
theorem Qho {P : Program} {ρ:Operand→Value} {o:Oper} {W:World} {g:Nat} {X Y:Obj} {v:Value} (h:∃ W':World,(execOp ρ o).run P W=.ok (.value v) W'∧Puts W g W'∧W'.heap[g]? = some Y) :
    ∃ u W',(execOp ρ o).run P W=.ok (.value u) W'∧QcJ g X Y W W'∧(u=v∧W'.heap[g]? = some Y):=by
  obtain ⟨W',e1,p1,r1⟩:=h
  exact ⟨_,W',e1,⟨ExtB.puts (ExtB.refl _ _) p1,.inr r1⟩,rfl,r1⟩
theorem QhT {P : Program} {ρ:Operand→Value} {o:Oper} {w:World} (t:TypeId) (x z:Operand) (l g len cap:Nat) (e:TypeId) (ho:o.op=.slice t x (some z) none none) (hx:ρ x=.slice (some ⟨g,0,none⟩) len cap)
    (hu:P.underlying t=some (.slice e)) (hs:(P.info? e).map (·.size)=some 1) (kz:IntKind) (hz:ρ z=.int kz (l:Int)) (h1:l≤len) (h2:len≤cap) :
    (execOp ρ o).run P w=.ok (.value (.slice (some ⟨g,(if cap=l then 0 else l),none⟩) (len-l) (cap-l))) w:=by
  cases hq:P.info? e with
  | none=>simp [hq] at hs
  | some i =>
    have hs':i.size=1:=by simpa [hq] using hs
    unfold execOp
    simp [ho,hx,hz,Instr.sliceAt,Instr.slice,Instr.sliceBounds,run_sliceBound,run_underlying hu,sizeOf,typeInfo,hq,hs',h1,h2]
    split
    · simp [Addr.add]
    · simp [Addr.add]
      exact fun h=>h.symm
theorem goXo {K : Act→World→Prop} {Q:Exit→Act→World→Prop} {a:Act} {w:World} {n m:Nat} (h:n≠m) (k:Q (.exit n) a w):Exit.inBlock m Q (.exit n) a w:=by
  unfold Exit.inBlock
  simp [h]
  exact k
theorem Qgw {W W':World} {g:Nat} {cs:Array Value} {t:TypeId} (h:ExtB g W W') (r:W.heap[g]? = some (.cells cs t)):KeepsOthers W W' :=
  ⟨h.2.2.2.1,fun k o hk ho=>by
    by_cases e:k=g
    · subst e
      rw [r] at hk
      cases hk
      cases ho
    · exact (h.2.2.2.2 k (Qay hk) e).trans hk⟩
theorem Qjg {gs : List Nat} {A B:World} {g:Nat} (h:ExtB g A B) (hm:g∈gs):QbM gs A B:=⟨h.2.2.2.1,fun k cs t fr q n=>(h.2.2.2.2 k (Qay q) (fun e=>n (e▸hm))).trans q⟩
theorem Qig {gs : List Nat} {A B:World} {g:Nat} (h:Puts A g B) (hm:g∈gs):QbM gs A B:=⟨qE h.2.2.2.1.symm,fun k cs t fr q n=>(h.2.2.2.2 k (fun e=>n (e▸hm))).trans q⟩
def okL (key info:List Int) (pre:List Nat):List Int:=(pre.map fun x=>tg key info (x+1)).flatten
def FF (key info:List Int) (n:Nat) (pre:List Nat):List Int:=(okL key info pre).take n++List.replicate (n-32*pre.length) 0
theorem QgQ (key info:List Int):∀ pre,(okL key info pre).length=32*pre.length
  | []=>rfl
  | x::l=>by
    have:=QgQ key info l
    unfold okL at this ⊢
    rw [List.map_cons,List.flatten_cons,List.length_append,this,tg,Qb2,List.length_cons]; omega
theorem Qhu (key info:List Int) (pre:List Nat) (x:Nat):okL key info (pre++[x])=okL key info pre++tg key info (x+1):=by simp [okL]
theorem Qgq (key info:List Int):∀ k,okL key info (List.range k)=okm key info k
  | 0=>rfl
  | k+1=>by rw [List.range_succ,Qhu,Qgq key info k,okm]
theorem Qj3 (key info:List Int) (n:Nat) (pre:List Nat):(FF key info n pre).length=n:=by
  unfold FF
  rw [List.length_append,List.length_take,QgQ,List.length_replicate]; omega
theorem Qnd (key info:List Int) (n:Nat):List.replicate n 0=FF key info n []:=by simp [FF,okL]
theorem Qjx (key info:List Int) (n:Nat) (pre:List Nat) (x:Nat) (h:pre.length=0∨32*pre.length<n) :
    (FF key info n pre).take (if n=32*pre.length then 0 else 32*pre.length)++(tg key info (x+1)).take (min 32 (n-32*pre.length))++(FF key info n pre).drop ((if n=32*pre.length then 0 else 32*pre.length)+min 32 (n-32*pre.length))=FF key info n (pre++[x]):=by
  have hl:=QgQ key info pre
  have ht:(tg key info (x+1)).length=32:=Qb2 _ _
  have hp:(pre++[x]).length=pre.length+1:=by simp
  by_cases hn:n=32*pre.length
  · have h0:n=0:=by omega
    subst h0
    rw [if_pos hn]
    unfold FF
    simp
  · have hlt:32*pre.length<n:=by omega
    rw [if_neg hn]
    unfold FF
    rw [Qhu,hp,List.take_of_length_le (by omega:(okL key info pre).length≤n),List.take_append_of_le_length (by omega),List.take_of_length_le (by omega:(okL key info pre).length≤32*pre.length),
      List.drop_append,List.drop_of_length_le (by omega:(okL key info pre).length≤32*pre.length+min 32 (n-32*pre.length)),List.nil_append,List.drop_replicate,List.take_append,List.take_of_length_le (by omega:(okL key info pre).length≤n),hl]
    congr 1
    · congr 1
      by_cases h32:n-32*pre.length≤32
      · rw [show min 32 (n-32*pre.length)=n-32*pre.length by omega]
      · rw [show min 32 (n-32*pre.length)=32 by omega,List.take_of_length_le (by omega),List.take_of_length_le (by omega)]
    · congr 1; omega
theorem Qko (key info:List Int) (n:Nat) (pre:List Nat) (x:Nat) (h:pre.length=0∨32*pre.length<n) :
    (FF key info n (pre++[x])).take (if n=32*pre.length then 0 else 32*pre.length)++(tg key info (x+1)).take (min 32 (n-32*pre.length))++(FF key info n (pre++[x])).drop ((if n=32*pre.length then 0 else 32*pre.length)+min 32 (n-32*pre.length))=FF key info n (pre++[x]):=by
  have ht:(tg key info (x+1)).length=32:=Qb2 _ _
  rw [←Qjx key info n pre x h]
  refine QjM _ _ _ _ ?_ (by omega)
  rw [Qj3]
  split <;> omega
theorem Qmj (key info:List Int) (n k:Nat) (h:n≤32*k):FF key info n (List.range k)=(okm key info k).take n:=by
  unfold FF
  rw [Qgq,List.length_range,show n-32*k=0 by omega,List.replicate_zero,List.append_nil]
theorem QdT (key info:List Int) (x:Nat):(tg key info (x+1)).length=32:=Qb2 _ _
theorem Qnn (a_key a_info:Option Addr) (n1 n2 c1 c2:Nat) (w:World):Calls Tryd.prog 61 #[.slice a_key n1 c1,.slice a_info n2 c2] w (QbN w (fun v W=>∃ g1 g2,v=.func (.func 66) #[] #[.pointer (some ⟨g1,0,none⟩),.pointer (some ⟨g2,0,none⟩)]∧w.heap.size≤g1∧w.heap.size≤g2∧W.heap[g1]? = some (.cells #[.slice a_key n1 c1] 38)∧W.heap[g2]? = some (.cells #[.slice a_info n2 c2] 38))):=by
  refine enter 6 [(0,.slice a_key n1 c1),(1,.slice a_info n2 c2)] Tryd.func61 rfl rfl kj rfl <| sgC fun K1 hK1=>Qap (#[.slice a_key n1 c1]) 38 2 rfl kj kj fun g2 W1 l2 e1 r2_1=>?_
  have x1:=Ext.tr (Rely.Ext.refl w) e1
  refine Qap (#[.slice a_info n2 c2]) 38 3 rfl kj kj fun g3 W2 l3 e2 r3_2=>sg 1 kj <| sgN hK1 <| sgB kj <| wp_ret ?_
  repeat (first | with_reducible refine goR1 ?_ | with_reducible refine goR2 ?_)
  exact (show bodyPost _ _ _ .ret _ _ from ret1 (.func (.func 66) #[] #[.pointer (some ⟨g2,0,none⟩),.pointer (some ⟨g3,0,none⟩)]) rfl (Qa2 kj) ⟨_,rfl,(Ext.tr x1 e2),g2,g3,rfl,(qT (Rely.Ext.refl w).size l2),(qT x1.size l3),(Qac r2_1 e2),r3_2⟩)
theorem QjW (key info:List Int) (n k:Nat) (h:n≤32*k):((okm key info k).take n).length=n:=by
  rw [List.length_take,Qd3]; omega
theorem Qke (key info:List Int) (v1 v2:Value) (B B2 n:Nat) (tc tq:TypeId) (w:World) (hc:w.heap[2]? = some (.cells (ints .u64 QaN) tc)) (hq:w.heap[1]? = some (.cells (ints .u64 Qam) tq)) (hn:n≤8160) (hkl:key.length≤800000000) (hil:info.length≤700000000) (hkb:Qat key) (hib:Qat info) (hk:RdK .u8 B key v1 w) (hi:RdK .u8 B2 info v2 w) :
  Calls Tryd.prog 59 #[v1,v2,.int .i64 ((n:Nat):Int)] w (QbN w (fun v W=>∃ u k,v=.tuple #[u,.nilIface]∧n≤32*k∧OwnN .u8 5 w.heap.size ((okm key info k).take n) u W)):=by
 obtain ⟨a_key,c_key,rfl,-⟩:=id hk
 obtain ⟨a_info,c_info,rfl,-⟩:=id hi
 refine QmT 35 [(0,.slice a_key key.length c_key),(1,.slice a_info info.length c_info),(2,.int .i64 ((n:Nat):Int))] Tryd.func59 rfl rfl kj rfl <| sgC fun K3 hK3=>Qap (#[.int .i64 ((n:Nat):Int)]) 3 5 rfl kj kj fun g4 W1 l4 e1 r4_1=>?_
 have x1:=Ext.tr (Rely.Ext.refl w) e1
 have b4:=qT (Rely.Ext.refl w).size l4
 refine sg 2 kj <| sgN hK3 <| wp_scope_straight <| wp_seq_k fun K5 hK5=>sgC fun K6 hK6=>Qab (.int .i64 ((n:Nat):Int)) 11 rfl kj (Qag 3 _ g4 0 3 _ (.int .i64 ((n:Nat):Int)) _ r4_1 rfl kj kj kj) <| Qab (.bool false) 12 rfl kj (Qai (u:=.bool (decide (((n:Nat):Int)<0))) kj (congrArg Value.bool (decide_eq_false (by omega)))) <| sg 1 kj <| Qab (.int .i64 ((n:Nat):Int)) 14 rfl kj (Qag 3 _ g4 0 3 _ (.int .i64 ((n:Nat):Int)) _ r4_1 rfl kj kj kj) <| Qab (.bool false) 15 rfl kj (Qai (u:=.bool (decide (((n:Nat):Int)>8160))) kj (congrArg Value.bool (decide_eq_false (by omega)))) ?_
 refine sg 1 kj <| sgN hK6 <| cond_false kj <| wp_skip <| hK5 _ _ <| sgC fun K7 hK7=>Qab (.int .i64 ((n:Nat):Int)) 18 rfl kj (Qag 3 _ g4 0 3 _ (.int .i64 ((n:Nat):Int)) _ r4_1 rfl kj kj kj) <| QaL (ints .u8 (List.replicate n 0)) 5 n 19 rfl kj (Qgg 38 _ _ .i64 .i64 n 5 rfl kj kj kj (.inr kj) (by omega)) fun g8 W2 l8 e2 r8_2=>?_
 have x2:=Ext.tr x1 e2
 have b8:=qT x1.size l8
 refine Qap (#[.slice none 0 0]) 38 8 rfl kj kj fun g9 W3 l9 e3 r9_3=>Qaj g9 _ (#[.slice (some ⟨g8,0,none⟩) n n]) 38 r9_3 rfl kj (QbC 38 _ _ g9 0 38 _ (.slice (some ⟨g8,0,none⟩) n n) r9_3 rfl kj kj kj kj kj rfl) fun W4 p4 r9_4=>?_
 have x4:=Puts.ext p4 (Ext.tr x2 e3) (qT x2.size l9)
 refine sgN hK7 <| sgC fun K10 hK10=>Qap (#[.int .i64 0]) 3 9 rfl kj kj fun g11 W5 l11 e5 r11_5=>?_
 have b11:=qT x4.size l11
 refine Qaj g11 _ (#[.int .i64 0]) 3 r11_5 rfl kj (QbC 3 _ _ g11 0 3 _ (.int .i64 0) r11_5 rfl kj kj kj kj kj rfl) fun W6 p6 r11_6=>sgN hK10 <| wp_seq_k fun K12 hK12=>wp_label <| hK12 _ _ <| wp_seq_k fun K13 hK13=>sgC fun K14 hK14=>sg 2 kj <| Qa6 (fun v W'=>(fun v W=>∃ g1 g2,v=.func (.func 66) #[] #[.pointer (some ⟨g1,0,none⟩),.pointer (some ⟨g2,0,none⟩)]∧W6.heap.size≤g1∧W6.heap.size≤g2∧W.heap[g1]? = some (.cells #[.slice a_key key.length c_key] 38)∧W.heap[g2]? = some (.cells #[.slice a_info info.length c_info] 38)) v W'∧Ext W6 W') 61 #[.slice a_key key.length c_key,.slice a_info info.length c_info] 22 rfl kj kj ((Qnn a_key a_info _ _ c_key c_info _).mono (by rintro e w' ⟨v,rfl,e1,hv⟩; exact ⟨v,rfl,hv,e1⟩)) fun vv15 W7 hh15=>?_
 obtain ⟨hv15,e7⟩:=hh15
 have x7:=Ext.tr (Puts.ext p6 (Ext.tr x4 e5) b11) e7
 obtain ⟨gp1,gp2,rfl,lp1,lp2,rp1,rp2⟩:=hv15
 refine sgN hK14 <| wp_block ?_
 have r4_2:=(Qac r4_1 e2)
 have r4_4:=(Puts.row p4 (Qac r4_2 e3) (Qae r4_2 l9))
 have r4_7:=(Qac (Puts.row p6 (Qac r4_4 e5) (Qae r4_4 l11)) e7)
 have r9_7:=(Qac (Puts.row p6 (Qac r9_4 e5) (Qae r9_4 l11)) e7)
 have r11_7:=(Qac r11_6 e7)
 have r8_4:=(Puts.row p4 (Qac r8_2 e3) (Qae r8_2 l9))
 have r8_6:=(Puts.row p6 (Qac r8_4 e5) (Qae r8_4 l11))
 have r8_7:=(Qac r8_6 e7)
 have r1_2:=(Qac (Qac hc e1) e2)
 have r1_4:=(Puts.row p4 (Qac r1_2 e3) (Qae r1_2 l9))
 have r2_2:=(Qac (Qac hq e1) e2)
 have r2_4:=(Puts.row p4 (Qac r2_2 e3) (Qae r2_2 l9))
 have nb58:g4≠g9:=(Qae r4_2 l9)
 have nb59:g4≠g11:=(Qae r4_4 l11)
 have nb5O:g4≠g8:=(Qae r4_1 l8)
 have nb85:g9≠g4:=(Qa8 r4_2 l9)
 have nb89:g9≠g11:=(Qae r9_4 l11)
 have nb8O:g9≠g8:=(Qa8 r8_2 l9)
 have nb95:g11≠g4:=(Qa8 r4_4 l11)
 have nb98:g11≠g9:=(Qa8 r9_4 l11)
 have nb9O:g11≠g8:=(Qa8 r8_4 l11)
 have nbO5:g8≠g4:=(Qa8 r4_1 l8)
 have nbO8:g8≠g9:=(Qae r8_2 l9)
 have nbO9:g8≠g11:=(Qae r8_4 l11)
 have hgs:∀ c∈([g11,g8]:List Nat),w.heap.size≤c:=(fun c hc=>by simp only [List.mem_cons,List.not_mem_nil,or_false] at hc; rcases hc with rfl | rfl; exact b11; exact b8)
 have hgl:∀ c∈([g11,g8]:List Nat),c<W7.heap.size:=(fun c hc=>by simp only [List.mem_cons,List.not_mem_nil,or_false] at hc; rcases hc with rfl | rfl; exact Qay r11_7; exact Qay r8_7)
 have hgp:∀ c∈([g11,g8]:List Nat),c<W6.heap.size:=(fun c hc=>by simp only [List.mem_cons,List.not_mem_nil,or_false] at hc; rcases hc with rfl | rfl; exact Qay r11_6; exact Qay r8_6)
 have hkL:RdK .u8 w.heap.size key (.slice a_key key.length c_key) W7:=(RdK.here hk).ext x7
 have hiL:RdK .u8 w.heap.size info (.slice a_info info.length c_info) W7:=(RdK.here hi).ext x7
 refine QgN (gf:=66) (lb:=#[.pointer (some ⟨gp1,0,none⟩),.pointer (some ⟨gp2,0,none⟩)]) (enc:=fun x:Nat=>.agg (ints .u8 (tg key info (x+1)))) kj (enters_of Tryd.func66 kj rfl) (QhN 2 [g11,g8] gp1 gp2 w.heap.size key info a_key a_info c_key c_info tc tq W7 hkl hil hkb hib x7.size hgs hgl hkL hiL (Qac (Puts.row p6 (Qac r1_4 e5) (Qae r1_4 l11)) e7) (Qac (Puts.row p6 (Qac r2_4 e5) (Qae r2_4 l11)) e7) rp1 rp2 (fun hm=>by have:=hgp _ hm; omega) (fun hm=>by have:=hgp _ hm; omega) (fun hm=>by have h1:=hgs _ hm; have h2:=Qay hc; omega) (fun hm=>by have h1:=hgs _ hm; have h2:=Qay hq; omega)) (fun h k=>QbM.trans h k) QbM.book (Below.refl _ _)
   (fun pre W=>((W.heap[g4]? = some (.cells (#[.int .i64 ((n:Nat):Int)]) 3))∧(W.heap[g9]? = some (.cells (#[.slice (some ⟨g8,0,none⟩) n n]) 38))∧(W.heap[g11]? = some (.cells (#[.int .i64 ((32*pre.length:Nat):Int)]) 3))∧(W.heap[g8]? = some (.cells (ints .u8 (FF key info n pre)) 5))∧(pre.length=0∨32*pre.length<n)∧W7.heap.size≤W.heap.size)∧Ext w W)
   (fun c pre W=>(c=.exit 0∧n≤32*pre.length∧(W.heap[g4]? = some (.cells (#[.int .i64 ((n:Nat):Int)]) 3))∧(W.heap[g9]? = some (.cells (#[.slice (some ⟨g8,0,none⟩) n n]) 38))∧(W.heap[g8]? = some (.cells (ints .u8 (FF key info n pre)) 5)))∧Ext w W) (OwnFrom.and (Own.from (fun s A B row hs hg hr=>⟨Qcn hs.1 hg hr,Qcn hs.2.1 hg hr,Qcn hs.2.2.1 hg hr,Qcn hs.2.2.2.1 hg hr,hs.2.2.2.2.1,qT hs.2.2.2.2.2 hg.size⟩) _) (ownFrom_below (qR _) x7.size)) (fun c=>OwnFrom.and (Own.from (fun s A B row hs hg hr=>⟨hs.1,hs.2.1,Qcn hs.2.2.1 hg hr,Qcn hs.2.2.2.1 hg hr,Qcn hs.2.2.2.2 hg hr⟩) _) (ownFrom_below (qR _) x7.size)) ⟨⟨r4_7,r9_7,r11_7,Qbi r8_7 (Qnd key info n),.inl rfl,qR _⟩,x7⟩ (fun e=>QbM.ext e) (fun pre A B h e=>⟨⟨Qac h.1.1 e,Qac h.1.2.1 e,Qac h.1.2.2.1 e,Qac h.1.2.2.2.1 e,h.1.2.2.2.2.1,qT h.1.2.2.2.2.2 e.size⟩,Rely.Ext.trans h.2 e⟩) (fun pre W h=>h.1.2.2.2.2.2) (fun x g=>[(10,.pointer (some ⟨g,0,none⟩)),(23,.agg (ints .u8 (tg key info (x+1))))]) (fun x=>ints .u8 (tg key info (x+1))) 23 (fun l x W K hK=>?_) (fun l pre x g10 W hg10 hI r10 hp=>?_) (fun D ys W lD hS hI rD=>?_) (fun D c pre W lD hSp hIx rD=>?_)
 ·skip
  refine Qdb <| Qkl (ints .u8 (List.replicate 32 0)) 23 10 rfl (Qcg l 1 _) rfl kj kj fun g301 W1 l301 e1 r301_1=>?_
  have x1:=Ext.tr (Rely.Ext.refl W) e1
  refine Qh5 g301 _ (ints .u8 (tg key info (x+1))) 23 r301_1 rfl (Qcg l 1 _) rfl kj (Qal 23 _ _ g301 23 _ _ r301_1 rfl kj kj (isz (n:=32) kj ((Qad _ _).trans (QdT _ _ _))) (eqsz (n:=32) ((Qad _ _).trans (List.length_replicate (n:=32))) ((Qad _ _).trans (QdT _ _ _))) (Qau _ _)) fun W2 p2 r301_2=>?_
  have x2:=Puts.ext p2 x1 (qT (Rely.Ext.refl W).size l301)
  refine Qg0 ?_
  exact hK _ _ l301 (Puts.ext p2 (Rely.Ext.trans (Rely.Ext.refl W) e1) l301) r301_2
 ·skip
  obtain ⟨⟨q5,q8,q9,qO,hpl,hsz⟩,xx⟩:=hI
  have n105:g10≠g4:=by have h1:=Qay r4_7; omega
  have n108:g10≠g9:=by have h1:=Qay r9_7; omega
  have n109:g10≠g11:=by have h1:=Qay r11_7; omega
  have n10O:g10≠g8:=by have h1:=Qay r8_7; omega
  have hl1:(pre++[x]).length=pre.length+1:=by simp
  have htl:=QdT key info x
  refine wpIn_block <| wpIn_seq_k fun K506 hK506=>Qih (QcJ g8 (Obj.cells (ints .u8 (FF key info n pre)) 5) (Obj.cells (ints .u8 (FF key info n (pre++[x]))) 5)) (QcJ.refl _ _ _) (fun h k=>QcJ.trans h k) 6 [⟨none,[(9,none)]⟩,⟨none,[(8,none)]⟩,⟨none,[(9,none)]⟩,⟨none,[(25,some 1),(26,some 2)]⟩,⟨none,[(10,none)]⟩,⟨none,[(27,some 3),(28,some 4)]⟩] (Qcg l 1 _) rfl kj kj fun F hF=>Qfw (QcJ.refl _ _ _) (.int .i64 ((32*pre.length:Nat):Int)) kj kj (fun W hR=>(Qag 3 _ g11 0 3 _ (.int .i64 ((32*pre.length:Nat):Int)) _ (ExtB.row hR.1 (Qac q9 (Qaz _)) nb9O) rfl kj kj kj)) <| Qfw (QcJ.refl _ _ _) (.slice (some ⟨g8,0,none⟩) n n) kj kj (fun W hR=>(Qag 38 _ g9 0 38 _ (.slice (some ⟨g8,0,none⟩) n n) _ (ExtB.row hR.1 (Qac q8 (Qaz _)) nb8O) rfl kj kj kj)) <| Qfw (QcJ.refl _ _ _) (.int .i64 ((32*pre.length:Nat):Int)) kj kj (fun W hR=>(Qag 3 _ g11 0 3 _ (.int .i64 ((32*pre.length:Nat):Int)) _ (ExtB.row hR.1 (Qac q9 (Qaz _)) nb9O) rfl kj kj kj)) <| Qfw (QcJ.refl _ _ _) (.slice (some ⟨g8,(if n=32*pre.length then 0 else 32*pre.length),none⟩) (n-32*pre.length) (n-32*pre.length)) kj kj (fun W hR=>QhT 38 _ _ (32*pre.length) g8 n n 5 rfl kj kj kj .i64 kj (by omega) (qR _)) <| Qfw (QcJ.refl _ _ _) (.slice (some ⟨g10,0,none⟩) 32 32) kj kj (fun W hR=>by kernel_rfl) <| Qml (fun u W=>u=.int .i64 (((min 32 (n-32*pre.length)):Nat):Int)∧W.heap[g8]? = some (Obj.cells (ints .u8 (FF key info n (pre++[x]))) 5)) (QcJ.stable _ _ _ _) kj kj (fun W hR=>?_) ?_
  ·have hsrc:RdK .u8 W.heap.size (tg key info (x+1)) (.slice (some ⟨g10,0,none⟩) 32 32) W:=QaU (QdT _ _ _) (ExtB.row hR.1 (Qac r10 (Qaz _)) n10O) (Qay (ExtB.row hR.1 (Qac r10 (Qaz _)) n10O)) (by decide)
   have hoff:(if n=32*pre.length then 0 else 32*pre.length)+(n-32*pre.length)≤n:=by split <;> omega
   rcases hR.row (Qac qO (Qaz _)) with hX | hY
   ·exact Qho (Qgh (k:=.u8) (e:=5) (.tmp 27) (.tmp 28) 38 38 (by rfl) kj kj (off:=(if n=32*pre.length then 0 else 32*pre.length)) (dl:=n-32*pre.length) (dc:=n-32*pre.length) (n:=(min 32 (n-32*pre.length))) (xs:=FF key info n pre) kj kj hsrc hX (by rw [Qj3]; exact hoff) (by rw [QdT]) (Qjx key info n pre x hpl))
   ·exact Qho (Qgh (k:=.u8) (e:=5) (.tmp 27) (.tmp 28) 38 38 (by rfl) kj kj (off:=(if n=32*pre.length then 0 else 32*pre.length)) (dl:=n-32*pre.length) (dc:=n-32*pre.length) (n:=(min 32 (n-32*pre.length))) (xs:=FF key info n (pre++[x])) kj kj hsrc hY (by rw [Qj3]; exact hoff) (by rw [QdT]) (Qko key info n pre x hpl))
  refine Qdk (hF _ fun W1 hR=>?_)
  simp only [List.nil_append,List.cons_append,List.take_succ_cons,List.take_zero,List.drop_succ_cons,List.drop_zero,finE,up]
  rintro v29 ⟨rfl,rO_1⟩
  clear hF
  have q1:=ExtB.trans (ExtB.ext (ExtB.refl _ _) (Qaz _)) hR.1
  have x1:=ExtB.up xx q1 b8
  refine Qel (.int .i64 (((32*pre.length)+(min 32 (n-32*pre.length)):Nat):Int)) 30 rfl (Qcg l 1 _) rfl kj (Qai (u:=.int .i64 (IntKind.i64.wrap (((32*pre.length:Nat):Int)+(((min 32 (n-32*pre.length)):Nat):Int)))) kj (congrArg (Value.int .i64) (i64n _ _ (by omega) (by omega)))) ?_
  have r503_1:=(ExtB.row q1 q9 nb9O)
  refine Qh5 g11 _ (#[.int .i64 (((32*pre.length)+(min 32 (n-32*pre.length)):Nat):Int)]) 3 r503_1 rfl (Qcg l 1 _) rfl kj (QbC 3 _ _ g11 0 3 _ (.int .i64 (((32*pre.length)+(min 32 (n-32*pre.length)):Nat):Int)) r503_1 rfl kj kj kj kj kj rfl) fun W2 p2 r503_2=>?_
  have x2:=Puts.ext p2 x1 b11
  refine Qg0 <| hK506 _ _ <| wpIn_seq_k fun K507 hK507=>Qdb <| Qel (.int .i64 (((32*pre.length)+(min 32 (n-32*pre.length)):Nat):Int)) 31 rfl (Qcg l 1 _) rfl kj (Qag 3 _ g11 0 3 _ (.int .i64 (((32*pre.length)+(min 32 (n-32*pre.length)):Nat):Int)) _ r503_2 rfl kj kj kj) ?_
  have r501_2:=(Puts.row p2 (ExtB.row q1 q5 nb5O) nb59)
  refine Qel (.int .i64 ((n:Nat):Int)) 32 rfl (Qcg l 1 _) rfl kj (Qag 3 _ g4 0 3 _ (.int .i64 ((n:Nat):Int)) _ r501_2 rfl kj kj kj) <| Qel (.bool (((((32*pre.length)+(min 32 (n-32*pre.length)):Nat):Int)==((n:Nat):Int)))) 33 rfl (Qcg l 1 _) rfl kj kj <| Qg0 <| hK507 _ _ <| QfN (t:=((((32*pre.length)+(min 32 (n-32*pre.length)):Nat):Int)==((n:Nat):Int))) kj (fun c508=>?_) (fun c508=>?_)
  ·skip
   have hm:32*pre.length+min 32 (n-32*pre.length)=n∨32*pre.length+min 32 (n-32*pre.length)≠n:=by omega
   have hge:n≤32*(pre.length+1):=by have:=eq_of_beq c508; omega
   refine wpIn_exit ?_
   repeat (first | with_reducible refine goX1 ?_ | with_reducible refine goXo (by decide) ?_)
   have r502_1:=(ExtB.row q1 q8 nb8O)
   have r502_2:=(Puts.row p2 r502_1 nb89)
   have r504_2:=(Puts.row p2 rO_1 nbO9)
   exact ⟨((Qgw q1 qO).trans (Qfp p2 r503_1)),⟨rfl,by rw [hl1]; exact hge,r501_2,r502_2,r504_2⟩,x2⟩
  ·skip
   have hm:32*pre.length+min 32 (n-32*pre.length)=n∨32*pre.length+min 32 (n-32*pre.length)≠n:=by omega
   have hlt:32*(pre.length+1)<n:=by
    have h:=c508
    apply Decidable.byContradiction
    intro hc2
    have e:((32*pre.length+min 32 (n-32*pre.length):Nat):Int)=((n:Nat):Int):=by omega
    rw [e,beq_self_eq_true] at h
    exact absurd h (by decide)
   refine wpIn_skip ?_
   repeat (first | with_reducible refine goX1 ?_ | with_reducible refine goX2 ?_ | with_reducible refine goX3 ?_)
   have r502_1:=(ExtB.row q1 q8 nb8O)
   have r502_2:=(Puts.row p2 r502_1 nb89)
   have r504_2:=(Puts.row p2 rO_1 nbO9)
   exact ⟨((Qgw q1 qO).trans (Qfp p2 r503_1)),(QbM.trans (Qjg q1 (by simp)) (Qig p2 (by simp))),⟨r501_2,r502_2,by rw [hl1,show 32*(pre.length+1)=32*pre.length+min 32 (n-32*pre.length) by omega]; exact r503_2,r504_2,.inr (by rw [hl1]; exact hlt),qT hsz (qT (qT (qR _) q1.2.2.2.1) (qE p2.2.2.2.1.symm))⟩,x2⟩
 ·exfalso
  obtain ⟨⟨-,-,-,-,hpl,-⟩,-⟩:=hI
  subst hS
  rw [List.length_range] at hpl
  omega
 ·obtain ⟨⟨rfl,hge,q5,q8,qO⟩,xx⟩:=hIx
  obtain ⟨kR,rfl,-⟩:=hSp
  rw [List.length_range] at hge
  rw [Qmj key info n kR hge] at qO
  have bD:w.heap.size≤D:=qT x7.size lD
  refine wp_exit <| hK13 _ _ <| sgC fun K17 hK17=>Qab (.slice (some ⟨g8,0,none⟩) n n) 34 rfl kj (Qag 38 _ g9 0 38 _ (.slice (some ⟨g8,0,none⟩) n n) _ q8 rfl kj kj kj) <| sg 2 kj <| sgN hK17 <| wp_ret ?_
  repeat (first | with_reducible refine goR1 ?_ | with_reducible refine goR2 ?_)
  exact (show bodyPostM _ _ _ _ _ .ret _ _ from Qnw (.slice (some ⟨g8,0,none⟩) n n) (.nilIface) rfl rD (Qa2 kj) (Qa2 kj) ⟨_,rfl,QjO xx bD rD _,_,kR,rfl,hge,QbU (QjW key info n kR hge) b8 (QjN qO rD _) (by simp only [maxLen]; omega)⟩)
end Go.Proofs.YtibegnjaphohaaaDoor.Sha
end
section
namespace Go.Proofs.YtibegnjaphohaaaDoor.Sha
open Go Go.RowKit
open Rely Auto Own
def kx (key info:List Int) (n:Nat):List Int:=(okm key info n).take n
theorem QgP (key info:List Int) (n:Nat):∀ (k d:Nat),n≤32*k→(okm key info (k+d)).take n=(okm key info k).take n
  | k,0,_=>rfl
  | k,d+1,h=>by
    rw [show k+(d+1)=(k+d)+1 by omega,okm,List.take_append_of_le_length (by rw [Qd3]; omega),QgP key info n k d h]
theorem QmE (key info:List Int) (n k:Nat) (h:n≤32*k):(okm key info k).take n=kx key info n:=by
  unfold kx
  rcases Nat.le_total k n with h1 | h1
  · obtain ⟨d,rfl⟩:∃ d,n=k+d:=⟨n-k,by omega⟩
    exact (QgP key info _ k d h).symm
  · obtain ⟨d,rfl⟩:∃ d,k=n+d:=⟨k-n,by omega⟩
    exact QgP key info _ n d (by omega)
theorem QbD (key info:List Int) (n:Nat):(kx key info n).length=n:=by unfold kx; rw [List.length_take,Qd3]; omega
theorem Qgp (key info:List Int):∀ k,Qat (okm key info k)
  | 0=>fun x hx=>by cases hx
  | k+1=>QbJ (Qgp key info k) (Qf0 key info (k+1))
theorem Qh1 (key info:List Int) (n:Nat):Qat (kx key info n):=fun x hx=>Qgp key info n x (List.mem_of_mem_take hx)
theorem Qkd (key info:List Int) (v1 v2:Value) (B B2 n:Nat) (tc tq:TypeId) (w:World) (hc:w.heap[2]? = some (.cells (ints .u64 QaN) tc)) (hq:w.heap[1]? = some (.cells (ints .u64 Qam) tq)) (hn:n≤8160) (hkl:key.length≤800000000) (hil:info.length≤700000000) (hkb:Qat key) (hib:Qat info) (hk:RdK .u8 B key v1 w) (hi:RdK .u8 B2 info v2 w) :
    Calls Tryd.prog 59 #[v1,v2,.int .i64 ((n:Nat):Int)] w (QbN w (fun v W=>∃ u,v=.tuple #[u,.nilIface]∧OwnN .u8 5 w.heap.size (kx key info n) u W)) :=
  (Qke key info v1 v2 B B2 n tc tq w hc hq hn hkl hil hkb hib hk hi).mono fun e W' ⟨v,h1,h2,u,k,h3,h4,h5⟩=>⟨v,h1,h2,u,h3,QmE key info n k h4▸h5⟩
end Go.Proofs.YtibegnjaphohaaaDoor.Sha
end
section
namespace Go.Proofs.YtibegnjaphohaaaDoor.Sha
open Go Go.RowKit
open Rely Auto Own
section
variable {P : Program} {ρ : Operand → Value} {o : Oper} {w : World}
theorem Qi5 {k : IntKind} (t:TypeId) (x y:Operand) (kl kc:IntKind) (n:Nat) (e:TypeId) (ho:o.op=.makeSlice t x y) (hx:ρ x=.int kl 0) (hy:ρ y=.int kc n)
    (hu:P.underlying t=some (.slice e)) (hi:(P.info? e).map (fun i=>(i.zero,i.size,i.bytes))=some (some (.int k 0),1,1)) (hn:n≤1000000000) :
    (execOp ρ o).run P w=.ok (.value (.slice (some ⟨w.heap.size,0,none⟩) 0 n)) (w.alloc (.cells (ints k (List.replicate n 0)) e)):=by
  cases hq:P.info? e with
  | none=>simp [hq] at hi
  | some i =>
    have hz:i.zero=some (.int k 0)∧i.size=1∧i.bytes=1:=by simpa [hq] using hi
    have hb:(i.bytes:Int)*(n:Int)≤281474976710656:=by rw [hz.2.2]; omega
    have h:=run_make w t e i (.int k 0) hu hq hz.1 kl kc 0 (n:Int) (by omega) (by omega) hb (by omega)
    rw [hz.2.1,Int.toNat_natCast,Qgu] at h
    unfold execOp
    simp only [ho,hx,hy,Sem.run_bind,Sem.run_pure,h,Result.andThen_ok]
    rfl
theorem QhU (t : TypeId) (x z:Operand) (h:Nat) (e:TypeId) (ho:o.op=.slice t x none (some z) none) {a:Option Addr} {len cap:Nat} (hx:ρ x=.slice a len cap)
    (hu:P.underlying t=some (.slice e)) (hs:(P.info? e).map (·.size)=some 1) (kz:IntKind) (hz:ρ z=.int kz (h:Int)) (h2:h≤cap) :
    (execOp ρ o).run P w=.ok (.value (.slice a h cap)) w:=by
  cases hq:P.info? e with
  | none=>simp [hq] at hs
  | some i =>
    have hs':i.size=1:=by simpa [hq] using hs
    unfold execOp
    have hadd:∀ a:Option Addr,Option.map (fun x=>x.add 0) a=a:=fun a=>by
      cases a with
      | none=>rfl
      | some a=>obtain ⟨b,o,s⟩:=a; cases s <;> simp [Addr.add]
    simp [ho,hx,hz,Instr.sliceAt,Instr.slice,Instr.sliceBounds,run_sliceBound,run_underlying hu,sizeOf,typeInfo,hq,hs',h2,hadd]
end
section
variable {ds : List Deferred} {P : Program} {ops : Array Oper} {Q : Exit → Act → World → Prop} {rest : List Oper} {o : Oper} {N : Nat} {L : Env} {w : World}
theorem Qi3 (cs : Array Value) (T:TypeId) (n d:Nat) (hd:o.dst=some d) (hg:Qbr ops o N L=some true) (h:(execOp (Rely.look (envN N L)) o).run P w=.ok (.value (.slice (some ⟨w.heap.size,0,none⟩) 0 n)) (w.alloc (.cells cs T)))
    (k:∀ (g:Nat) (W:World),w.heap.size≤g→Ext w W→W.heap[g]? = some (.cells cs T)→WL P ops Q rest (Qa0 ds N ((d,.slice (some ⟨g,0,none⟩) 0 n)::L)) W):WL P ops Q (o::rest) (Qa0 ds N L) w :=
  Qbt _ _ d hd hg h (k _ _ (qR _) (QbI _ _) (heap_alloc_new _ _))
end
def strB (s : ByteArray):List Int:=s.data.toList.map fun b=>(b.toNat:Int)
theorem QbQ (s : ByteArray):(strB s).length=s.size:=by unfold strB; rw [List.length_map,Array.length_toList]; rfl
theorem Qff (s : ByteArray):Qat (strB s):=fun x hx=>by
  unfold strB at hx
  obtain ⟨b,-,rfl⟩:=List.mem_map.1 hx
  have:=b.toNat_lt
  omega
theorem QhO (s : ByteArray):Lib.strCells s=(strB s).map (Value.int .u8):=by unfold Lib.strCells strB; rw [List.map_map]; rfl
theorem Qkz {P : Program} {T:TypeId} {ρ:Operand→Value} {o:Oper} {W:World} (s x:Operand) (t u:TypeId) (ho:o.op=.call { callee:=.builtin .append,args:=#[s,x],argTypes:=#[t,u] })
    (ht:P.underlying t=some (.slice T)) (hu:P.underlying u=some .string) (hi:(P.info? T).map (fun i=>(i.zero,i.size,i.bytes))=some (some (.int .u8 0),1,1)) {base:Nat} {v:Value} {xs:List Int} {lab:ByteArray} (hs:ρ s=v) (hx:ρ x=.string lab)
    (h:OwnN .u8 T base xs v W) (hn:xs.length+(strB lab).length≤1000000000) (hbase:base≤W.heap.size) :
    ∃ v' W',(execOp ρ o).run P W=.ok (.value v') W'∧OwnN .u8 T base (xs++strB lab) v' W'∧W.grownBy W' v.ownBlock:=by
  obtain ⟨i,hq,hi1,hi2,hi3⟩:=QlI hi
  rw [QbQ] at hn
  obtain ⟨v',W',hr,h2,h3,_⟩:=Lib.run_append_own_string (P:=P) W base t u o.type T i ht hu hq hi1 hi2 hi3 v xs.length (xs.map (Value.int .u8)) h.1 lab (by simp only [maxLen]; omega) (by omega) hbase
  refine ⟨v',W',?_,⟨?_,by rw [List.length_append,QbQ]; simp only [maxLen]; omega⟩,h3⟩
  · unfold execOp
    simp only [ho,resolve,invoke,builtin,Sem.run_bind,Sem.run_pure,Result.andThen_ok,List.map_toArray,List.map_cons,List.map_nil,hs,hx,hr]
  · rw [List.length_append,List.map_append,QbQ,←QhO]; exact h2
section
variable {ds : List Deferred} {P : Program} {ops : Array Oper} {Q : Exit → Act → World → Prop} {rest : List Oper} {o : Oper} {N : Nat} {L : Env} {W : World}
theorem QeA {T : TypeId} (s x:Operand) (t u:TypeId) (ho:o.op=.call { callee:=.builtin .append,args:=#[s,x],argTypes:=#[t,u] })
    (ht:P.underlying t=some (.slice T)) (hu:P.underlying u=some .string) (hi:(P.info? T).map (fun i=>(i.zero,i.size,i.bytes))=some (some (.int .u8 0),1,1)) (d:Nat) (hd:o.dst=some d) (hg:Qbr ops o N L=some true) {v:Value} {xs:List Int} {lab:ByteArray} {V:World}
    (hs:Rely.look (envN N L) s=v) (hx:Rely.look (envN N L) x=.string lab)
    (h:OwnN .u8 T V.heap.size xs v W) (hn:xs.length+(strB lab).length≤1000000000) (hV:Ext V W)
    (kk:∀ (z:Value) (W':World),OwnN .u8 T V.heap.size (xs++strB lab) z W'→Ext V W'→Below V.heap.size W W'→WL P ops Q rest (Qa0 ds N ((d,z)::L)) W'):WL P ops Q (o::rest) (Qa0 ds N L) W:=by
  obtain ⟨v',W',h1,h2,h3⟩:=Qkz (ρ:=Rely.look (envN N L)) (o:=o) (W:=W) s x t u ho ht hu hi hs hx h hn hV.size
  exact Qbt _ _ d hd hg h1 (kk v' W' h2 (QfR hV h h3) ⟨h3.os,h3.tape,h3.output,h3.size,fun i hi=>h3.block i (qL hi hV.size) (fun q=>by have:=h.ge q.symm; omega)⟩)
end
theorem Qil {n : Nat} {W W':World} (h:Below n W.drew W') (hn:n≤W.heap.size):Below n W W':=Below.trans ((Qaz W).mono hn) h
theorem shrN (a : Nat) (s:Int) (c:Nat) (h:(2:Int)^min s.toNat IntKind.i64.bits=(c:Int)):((a:Nat):Int).fdiv (2^min s.toNat IntKind.i64.bits)=((a/c:Nat):Int):=by
  rw [h,Int.fdiv_eq_ediv_of_nonneg _ (by omega)]; exact (Int.natCast_ediv a c).symm
theorem QdP (a b:Nat) (h:a%256=b):IntKind.u8.wrap ((a:Nat):Int)=((b:Nat):Int):=by rw [Qj1,h]
def Qci (lab : List Int) (n:Nat):List Int:=[((n/256:Nat):Int),((n%256:Nat):Int),((lab.length:Nat):Int)]
def Qd5 (c : Nat):List Int:=[((c/16777216:Nat):Int),((c/65536%256:Nat):Int),((c/256%256:Nat):Int),((c%256:Nat):Int)]
def Qbn (lab ctx:List Int) (n:Nat):List Int:=Qci lab n++lab++Qd5 ctx.length++ctx
theorem Qgz (lab ctx:List Int) (n:Nat):(Qbn lab ctx n).length=lab.length+ctx.length+7:=by
  unfold Qbn Qci Qd5
  simp only [List.length_append,List.length_cons,List.length_nil]; omega
theorem QeO (lab ctx:List Int) (n:Nat) (hl:Qat lab) (hc:Qat ctx) (h1:lab.length≤255) (h2:ctx.length≤65536) (h3:n≤8160):Qat (Qbn lab ctx n):=by
  unfold Qbn Qci Qd5
  refine QbJ (QbJ (QbJ ?_ hl) ?_) hc
  · intro x hx
    simp only [List.mem_cons,List.not_mem_nil,or_false] at hx
    omega
  · intro x hx
    simp only [List.mem_cons,List.not_mem_nil,or_false] at hx
    omega
theorem QlB (sec ctx:List Int) (s:ByteArray) (v2:Value) (B2:Nat) (tc tq:TypeId) (w:World) (hc:w.heap[2]? = some (.cells (ints .u64 QaN) tc)) (hq:w.heap[1]? = some (.cells (ints .u64 Qam) tq)) (hsl:sec.length=32) (hsb:Qat sec) (hxb:Qat ctx) (hx:RdK .u8 B2 ctx v2 w) (n:Int) (h0:0≤n) (h1:n≤8160) (h:255<(strB s).length):Calls Tryd.prog 51 #[.agg (ints .u8 sec),.string s,v2,.int .i64 n] w (Ret w (.tuple #[.slice none 0 0,.iface 47 (.int .i64 4)])):=by
  obtain ⟨a_ctx,c_ctx,rfl,-⟩:=id hx
  refine enter 75 [(0,.agg (ints .u8 (sec))),(1,.string s),(2,.slice a_ctx ctx.length c_ctx),(3,.int .i64 n)] Tryd.func51 rfl rfl (by kernel_rfl) rfl <| sgC fun K3 hK3=>Qap (ints .u8 (sec)) 23 4 rfl (by kernel_rfl) (by kernel_rfl) fun g4 W1 l4 e1 r4_1=>?_
  have b4:=qT (Rely.Ext.refl w).size l4
  refine Qab (.slice none 0 0) 8 rfl (by kernel_rfl) (by kernel_rfl) <| Qab (.nilIface) 9 rfl (by kernel_rfl) (by kernel_rfl) <| sgN hK3 <| wp_seq_k fun K5 hK5=>sgC fun K6 hK6=>Qab (.int .i64 n) 12 rfl (by kernel_rfl) (by kernel_rfl) <| Qab (.bool false) 13 rfl (by kernel_rfl) (Qai (u:=.bool (decide (n<0))) (by kernel_rfl) (congrArg Value.bool (decide_eq_false (by omega)))) <| Qab (.bool false) 14 rfl (by kernel_rfl) (by kernel_rfl) <| Qab (.int .i64 n) 15 rfl (by kernel_rfl) (by kernel_rfl) <| Qab (.bool false) 16 rfl (by kernel_rfl) (Qai (u:=.bool (decide (n>8160))) (by kernel_rfl) (congrArg Value.bool (decide_eq_false (by omega)))) ?_
  refine Qab (.bool false) 17 rfl (by kernel_rfl) (by kernel_rfl) <| Qab (.bool false) 18 rfl (by kernel_rfl) (by kernel_rfl) <| Qab (.string s) 19 rfl (by kernel_rfl) (by kernel_rfl) <| Qab (.int .i64 (((strB s).length:Nat):Int)) 20 rfl (by kernel_rfl) (Qai (u:=.int .i64 ((s.size:Nat):Int)) (by kernel_rfl) (congrArg (fun z:Nat=>Value.int .i64 (z:Int)) (QbQ s).symm)) <| Qab (.bool true) 21 rfl (by kernel_rfl) (Qai (u:=.bool (decide ((((strB s).length:Nat):Int)>255))) (by kernel_rfl) (congrArg Value.bool (decide_eq_true (by omega)))) <| Qab (.bool true) 22 rfl (by kernel_rfl) (by kernel_rfl) <| Qab (.bool true) 23 rfl (by kernel_rfl) (by kernel_rfl) <| QbR 24 rfl (by kernel_rfl) <| QbR 25 rfl (by kernel_rfl) <| QbR 26 rfl (by kernel_rfl) ?_
  refine Qab (.bool true) 27 rfl (by kernel_rfl) (by kernel_rfl) <| sgN hK6 <| cond_true (by kernel_rfl) <| sgC fun K7 hK7=>Qab (.iface 47 (.int .i64 4)) 28 rfl (by kernel_rfl) (by kernel_rfl) <| Qab (.slice none 0 0) 8 rfl (by kernel_rfl) (by kernel_rfl) <| Qab (.iface 47 (.int .i64 4)) 9 rfl (by kernel_rfl) (by kernel_rfl) <| sgN hK7 <| wp_ret ?_
  repeat (first | with_reducible refine goR1 ?_ | with_reducible refine goR2 ?_)
  exact (show bodyPost _ _ _ .ret _ _ from ret2 (.slice none 0 0) (.iface 47 (.int .i64 4)) rfl (Qa2 (by kernel_rfl)) (Qa2 (by kernel_rfl)) ⟨rfl,(Ext.tr (Rely.Ext.refl w) e1)⟩)
theorem QkI (sec ctx:List Int) (s:ByteArray) (v2:Value) (B2:Nat) (tc tq:TypeId) (w:World) (hc:w.heap[2]? = some (.cells (ints .u64 QaN) tc)) (hq:w.heap[1]? = some (.cells (ints .u64 Qam) tq)) (hsl:sec.length=32) (hsb:Qat sec) (hxb:Qat ctx) (hx:RdK .u8 B2 ctx v2 w) (n:Nat) (hn:n≤8160) (hl:(strB s).length≤255) (hc2:ctx.length≤65536):Calls Tryd.prog 51 #[.agg (ints .u8 sec),.string s,v2,.int .i64 ((n:Nat):Int)] w (QbN w (fun v W=>∃ u,v=.tuple #[u,.nilIface]∧OwnN .u8 5 w.heap.size (kx sec (Qbn (strB s) ctx n) n) u W)):=by
  obtain ⟨a_ctx,c_ctx,rfl,-⟩:=id hx
  refine enter 75 [(0,.agg (ints .u8 (sec))),(1,.string s),(2,.slice a_ctx ctx.length c_ctx),(3,.int .i64 ((n:Nat):Int))] Tryd.func51 rfl rfl (by kernel_rfl) rfl <| sgC fun K3 hK3=>Qap (ints .u8 (sec)) 23 4 rfl (by kernel_rfl) (by kernel_rfl) fun g4 W1 l4 e1 r4_1=>?_
  have x1:=Ext.tr (Rely.Ext.refl w) e1
  have b4:=qT (Rely.Ext.refl w).size l4
  refine Qab (.slice none 0 0) 8 rfl (by kernel_rfl) (by kernel_rfl) <| Qab (.nilIface) 9 rfl (by kernel_rfl) (by kernel_rfl) <| sgN hK3 <| wp_seq_k fun K5 hK5=>sgC fun K6 hK6=>Qab (.int .i64 ((n:Nat):Int)) 12 rfl (by kernel_rfl) (by kernel_rfl) <| Qab (.bool false) 13 rfl (by kernel_rfl) (Qai (u:=.bool (decide (((n:Nat):Int)<0))) (by kernel_rfl) (congrArg Value.bool (decide_eq_false (by omega)))) <| Qab (.bool false) 14 rfl (by kernel_rfl) (by kernel_rfl) <| Qab (.int .i64 ((n:Nat):Int)) 15 rfl (by kernel_rfl) (by kernel_rfl) <| Qab (.bool false) 16 rfl (by kernel_rfl) (Qai (u:=.bool (decide (((n:Nat):Int)>8160))) (by kernel_rfl) (congrArg Value.bool (decide_eq_false (by omega)))) ?_
  refine Qab (.bool false) 17 rfl (by kernel_rfl) (by kernel_rfl) <| Qab (.bool false) 18 rfl (by kernel_rfl) (by kernel_rfl) <| Qab (.string s) 19 rfl (by kernel_rfl) (by kernel_rfl) <| Qab (.int .i64 (((strB s).length:Nat):Int)) 20 rfl (by kernel_rfl) (Qai (u:=.int .i64 ((s.size:Nat):Int)) (by kernel_rfl) (congrArg (fun z:Nat=>Value.int .i64 (z:Int)) (QbQ s).symm)) <| Qab (.bool false) 21 rfl (by kernel_rfl) (Qai (u:=.bool (decide ((((strB s).length:Nat):Int)>255))) (by kernel_rfl) (congrArg Value.bool (decide_eq_false (by omega)))) <| Qab (.bool false) 22 rfl (by kernel_rfl) (by kernel_rfl) <| Qab (.bool false) 23 rfl (by kernel_rfl) (by kernel_rfl) <| Qab (.slice a_ctx ctx.length c_ctx) 24 rfl (by kernel_rfl) (by kernel_rfl) <| Qab (.int .i64 ((ctx.length:Nat):Int)) 25 rfl (by kernel_rfl) (by kernel_rfl) <| Qab (.bool false) 26 rfl (by kernel_rfl) (Qai (u:=.bool (decide (((ctx.length:Nat):Int)>65536))) (by kernel_rfl) (congrArg Value.bool (decide_eq_false (by omega)))) ?_
  refine Qab (.bool false) 27 rfl (by kernel_rfl) (by kernel_rfl) <| sgN hK6 <| cond_false (by kernel_rfl) <| wp_skip <| hK5 _ _ <| sgC fun K7 hK7=>Qab (.string s) 29 rfl (by kernel_rfl) (by kernel_rfl) <| Qab (.int .i64 (((strB s).length:Nat):Int)) 30 rfl (by kernel_rfl) (Qai (u:=.int .i64 ((s.size:Nat):Int)) (by kernel_rfl) (congrArg (fun z:Nat=>Value.int .i64 (z:Int)) (QbQ s).symm)) <| Qab (.int .i64 ((7+((strB s).length):Nat):Int)) 31 rfl (by kernel_rfl) (Qai (u:=.int .i64 (IntKind.i64.wrap (7+(((strB s).length:Nat):Int)))) (by kernel_rfl) (congrArg (Value.int .i64) (i64n _ _ (by omega) (by omega)))) <| Qab (.slice a_ctx ctx.length c_ctx) 32 rfl (by kernel_rfl) (by kernel_rfl) ?_
  refine Qab (.int .i64 ((ctx.length:Nat):Int)) 33 rfl (by kernel_rfl) (by kernel_rfl) <| Qab (.int .i64 (((7+((strB s).length))+ctx.length:Nat):Int)) 34 rfl (by kernel_rfl) (Qai (u:=.int .i64 (IntKind.i64.wrap (((7+((strB s).length):Nat):Int)+((ctx.length:Nat):Int)))) (by kernel_rfl) (congrArg (Value.int .i64) (i64n _ _ (by omega) (by omega)))) <| Qi3 (ints .u8 (List.replicate (7+(strB s).length+ctx.length) 0)) 5 (7+(strB s).length+ctx.length) 35 rfl (by kernel_rfl) (Qi5 38 _ _ .i64 .i64 (7+(strB s).length+ctx.length) 5 rfl (by kernel_rfl) (by kernel_rfl) (by kernel_rfl) (by kernel_rfl) (by omega)) fun g8 W2 l8 e2 r8_2=>?_
  have x2:=Ext.tr x1 e2
  have b8:=qT x1.size l8
  have hz0:OwnN .u8 5 W1.heap.size [] (.slice (some ⟨g8,0,none⟩) 0 (7+(strB s).length+ctx.length)) W2:=QfB (n:=0) rfl l8 r8_2 (by rw [Qad,List.length_replicate]) (Nat.zero_le _) (by simp only [maxLen]; omega) rfl
  refine Qab (.slice (some ⟨g8,0,none⟩) 0 (7+(strB s).length+ctx.length)) 10 rfl (by kernel_rfl) (by kernel_rfl) <| sgN hK7 <| sgC fun K9 hK9=>Qab (.slice (some ⟨g8,0,none⟩) 0 (7+(strB s).length+ctx.length)) 36 rfl (by kernel_rfl) (by kernel_rfl) <| Qab (.int .i64 ((n:Nat):Int)) 37 rfl (by kernel_rfl) (by kernel_rfl) <| Qab (.int .i64 (((n/256:Nat):Int))) 38 rfl (by kernel_rfl) (Qa1 .shr _ _ _ _ .i64 .u64 _ _ _ rfl (by kernel_rfl) (by kernel_rfl) (QaQ _ _ _ _ _ _ (by decide) (shrN n 8 256 (by decide)))) <| Qab (.int .u8 (((n/256:Nat):Int))) 39 rfl (by kernel_rfl) (Qai (u:=.int .u8 (IntKind.u8.wrap (((n/256:Nat):Int)))) (by kernel_rfl) (congrArg (Value.int .u8) (QdP (n/256) (n/256) (by omega)))) <| Qab (.int .i64 ((n:Nat):Int)) 40 rfl (by kernel_rfl) (by kernel_rfl) <| Qab (.int .u8 (((n%256:Nat):Int))) 41 rfl (by kernel_rfl) (Qai (u:=.int .u8 (IntKind.u8.wrap ((n:Nat):Int))) (by kernel_rfl) (congrArg (Value.int .u8) (QdP (n) (n%256) (by omega)))) <| Qab (.string s) 42 rfl (by kernel_rfl) (by kernel_rfl) ?_
  refine Qab (.int .i64 (((strB s).length:Nat):Int)) 43 rfl (by kernel_rfl) (Qai (u:=.int .i64 ((s.size:Nat):Int)) (by kernel_rfl) (congrArg (fun z:Nat=>Value.int .i64 (z:Int)) (QbQ s).symm)) <| Qab (.int .u8 ((((strB s).length:Nat):Int))) 44 rfl (by kernel_rfl) (Qai (u:=.int .u8 (IntKind.u8.wrap (((strB s).length:Nat):Int))) (by kernel_rfl) (congrArg (Value.int .u8) (QdP ((strB s).length) ((strB s).length) (by omega)))) <| QaL (ints .u8 ([(((n/256:Nat):Int)),(((n%256:Nat):Int)),((((strB s).length:Nat):Int))])) 5 3 45 rfl (by kernel_rfl) (by kernel_rfl) fun g10 W3 l10 e3 r10_3=>?_
  have b10:=qT x2.size l10
  refine QaM (k:=.u8) (T:=5) (xs:=[]) (ys:=[(((n/256:Nat):Int)),(((n%256:Nat):Int)),((((strB s).length:Nat):Int))]) (V:=W1) 1 (.tmp 36) (.tmp 45) 38 rfl (by kernel_rfl) (by kernel_rfl) (by decide) 46 rfl (by kernel_rfl) (by kernel_rfl) (by kernel_rfl) (hz0.ext e3) (QaU (xs:=[(((n/256:Nat):Int)),(((n%256:Nat):Int)),((((strB s).length:Nat):Int))]) (n:=3) rfl r10_3 (Qay r10_3) (show 3≤maxLen from by decide)) (by have:(Qci (strB s) n).length=3:=rfl; have:(Qd5 ctx.length).length=4:=rfl; simp only [List.length_append,List.length_cons,List.length_nil]; omega) (Rely.Ext.trans (Rely.Ext.trans (Rely.Ext.refl W1) e2) e3) fun z1 W4 f12 y4 l4=>?_
  have hu14:OwnN .u8 5 W1.heap.size (Qci (strB s) n) z1 W4:=f12
  refine Qab (z1) 10 rfl (by kernel_rfl) (by kernel_rfl) <| sgN hK9 <| sgC fun K15 hK15=>Qab (z1) 47 rfl (by kernel_rfl) (by kernel_rfl) <| Qab (.string s) 48 rfl (by kernel_rfl) (by kernel_rfl) <| QeA (T:=5) (xs:=Qci (strB s) n) (lab:=s) (V:=W1) (.tmp 47) (.tmp 48) 38 9 rfl (by kernel_rfl) (by kernel_rfl) (by kernel_rfl) 49 rfl (by kernel_rfl) (by kernel_rfl) (by kernel_rfl) hu14 (by have:(Qci (strB s) n).length=3:=rfl; (try simp only [List.length_append,List.length_cons,List.length_nil]); omega) y4 fun z2 W5 f16 y5 l5=>?_
  have x5:=Ext.low (Ext.low (Ext.tr x2 e3) l4 x1.size) l5 x1.size
  have hu17:OwnN .u8 5 W1.heap.size (Qci (strB s) n++strB s) z2 W5:=f16
  refine Qab (z2) 10 rfl (by kernel_rfl) (by kernel_rfl) <| sgN hK15 <| sgC fun K18 hK18=>Qab (.slice a_ctx ctx.length c_ctx) 50 rfl (by kernel_rfl) (by kernel_rfl) <| Qab (.int .i64 ((ctx.length:Nat):Int)) 51 rfl (by kernel_rfl) (by kernel_rfl) <| Qab (.int .i64 ((ctx.length:Nat):Int)) 11 rfl (by kernel_rfl) (by kernel_rfl) <| sgN hK18 <| sgC fun K19 hK19=>Qab (z2) 52 rfl (by kernel_rfl) (by kernel_rfl) <| Qab (.int .i64 ((ctx.length:Nat):Int)) 53 rfl (by kernel_rfl) (by kernel_rfl) ?_
  refine Qab (.int .i64 (((ctx.length/16777216:Nat):Int))) 54 rfl (by kernel_rfl) (Qa1 .shr _ _ _ _ .i64 .u64 _ _ _ rfl (by kernel_rfl) (by kernel_rfl) (QaQ _ _ _ _ _ _ (by decide) (shrN ctx.length 24 16777216 (by decide)))) <| Qab (.int .u8 (((ctx.length/16777216:Nat):Int))) 55 rfl (by kernel_rfl) (Qai (u:=.int .u8 (IntKind.u8.wrap (((ctx.length/16777216:Nat):Int)))) (by kernel_rfl) (congrArg (Value.int .u8) (QdP (ctx.length/16777216) (ctx.length/16777216) (by omega)))) <| Qab (.int .i64 ((ctx.length:Nat):Int)) 56 rfl (by kernel_rfl) (by kernel_rfl) <| Qab (.int .i64 (((ctx.length/65536:Nat):Int))) 57 rfl (by kernel_rfl) (Qa1 .shr _ _ _ _ .i64 .u64 _ _ _ rfl (by kernel_rfl) (by kernel_rfl) (QaQ _ _ _ _ _ _ (by decide) (shrN ctx.length 16 65536 (by decide)))) <| Qab (.int .u8 (((ctx.length/65536%256:Nat):Int))) 58 rfl (by kernel_rfl) (Qai (u:=.int .u8 (IntKind.u8.wrap (((ctx.length/65536:Nat):Int)))) (by kernel_rfl) (congrArg (Value.int .u8) (QdP (ctx.length/65536) (ctx.length/65536%256) (by omega)))) <| Qab (.int .i64 ((ctx.length:Nat):Int)) 59 rfl (by kernel_rfl) (by kernel_rfl) <| Qab (.int .i64 (((ctx.length/256:Nat):Int))) 60 rfl (by kernel_rfl) (Qa1 .shr _ _ _ _ .i64 .u64 _ _ _ rfl (by kernel_rfl) (by kernel_rfl) (QaQ _ _ _ _ _ _ (by decide) (shrN ctx.length 8 256 (by decide)))) <| Qab (.int .u8 (((ctx.length/256%256:Nat):Int))) 61 rfl (by kernel_rfl) (Qai (u:=.int .u8 (IntKind.u8.wrap (((ctx.length/256:Nat):Int)))) (by kernel_rfl) (congrArg (Value.int .u8) (QdP (ctx.length/256) (ctx.length/256%256) (by omega)))) <| Qab (.int .i64 ((ctx.length:Nat):Int)) 62 rfl (by kernel_rfl) (by kernel_rfl) <| Qab (.int .u8 (((ctx.length%256:Nat):Int))) 63 rfl (by kernel_rfl) (Qai (u:=.int .u8 (IntKind.u8.wrap ((ctx.length:Nat):Int))) (by kernel_rfl) (congrArg (Value.int .u8) (QdP (ctx.length) (ctx.length%256) (by omega)))) ?_
  refine QaL (ints .u8 ([(((ctx.length/16777216:Nat):Int)),(((ctx.length/65536%256:Nat):Int)),(((ctx.length/256%256:Nat):Int)),(((ctx.length%256:Nat):Int))])) 5 4 64 rfl (by kernel_rfl) (by kernel_rfl) fun g20 W6 l20 e6 r20_6=>?_
  have b20:=qT x5.size l20
  refine QaM (k:=.u8) (T:=5) (xs:=Qci (strB s) n++strB s) (ys:=[(((ctx.length/16777216:Nat):Int)),(((ctx.length/65536%256:Nat):Int)),(((ctx.length/256%256:Nat):Int)),(((ctx.length%256:Nat):Int))]) (V:=W1) 1 (.tmp 52) (.tmp 64) 38 rfl (by kernel_rfl) (by kernel_rfl) (by decide) 65 rfl (by kernel_rfl) (by kernel_rfl) (by kernel_rfl) (hu17.ext e6) (QaU (xs:=[(((ctx.length/16777216:Nat):Int)),(((ctx.length/65536%256:Nat):Int)),(((ctx.length/256%256:Nat):Int)),(((ctx.length%256:Nat):Int))]) (n:=4) rfl r20_6 (Qay r20_6) (show 4≤maxLen from by decide)) (by have:(Qci (strB s) n).length=3:=rfl; have:(Qd5 ctx.length).length=4:=rfl; simp only [List.length_append,List.length_cons,List.length_nil]; omega) (Rely.Ext.trans y5 e6) fun z3 W7 f22 y7 l7=>?_
  have x7:=Ext.low (Ext.tr x5 e6) l7 x1.size
  have hu24:OwnN .u8 5 W1.heap.size ((Qci (strB s) n++strB s)++Qd5 ctx.length) z3 W7:=f22
  refine Qab (z3) 10 rfl (by kernel_rfl) (by kernel_rfl) <| sgN hK19 <| sgC fun K25 hK25=>Qab (z3) 66 rfl (by kernel_rfl) (by kernel_rfl) <| Qab (.slice a_ctx ctx.length c_ctx) 67 rfl (by kernel_rfl) (by kernel_rfl) <| QaM (k:=.u8) (T:=5) (xs:=(Qci (strB s) n++strB s)++Qd5 ctx.length) (ys:=ctx) (V:=W1) 1 (.tmp 66) (.tmp 67) 38 rfl (by kernel_rfl) (by kernel_rfl) (by decide) 68 rfl (by kernel_rfl) (by kernel_rfl) (by kernel_rfl) hu24 (RdK.ext hx x7) (by have:(Qci (strB s) n).length=3:=rfl; have:(Qd5 ctx.length).length=4:=rfl; simp only [List.length_append,List.length_cons,List.length_nil]; omega) y7 fun z4 W8 f26 y8 l8=>?_
  have x8:=Ext.low x7 l8 x1.size
  have hu28:OwnN .u8 5 W1.heap.size (Qbn (strB s) ctx n) z4 W8:=f26
  refine Qab (z4) 10 rfl (by kernel_rfl) (by kernel_rfl) <| sgN hK25 <| sgC fun K29 hK29=>Qab (.slice (some ⟨g4,0,none⟩) 32 32) 69 rfl (by kernel_rfl) (by kernel_rfl) <| Qab (z4) 70 rfl (by kernel_rfl) (by kernel_rfl) <| Qab (.int .i64 ((n:Nat):Int)) 71 rfl (by kernel_rfl) (by kernel_rfl) ?_
  obtain ⟨ai30,ci30,hai30,-⟩:=id (OwnN.rd hu28)
  have r1_1:=(Qac hc e1)
  have r2_1:=(Qac hq e1)
  have r4_8:=(QaS l8 (QaS l7 (Qac (QaS l5 (QaS l4 (Qac (Qac r4_1 e2) e3) (Qay r4_1)) (Qay r4_1)) e6) (Qay r4_1)) (Qay r4_1))
  refine Qa6 (fun v W'=>(fun v W=>∃ u,v=.tuple #[u,.nilIface]∧OwnN .u8 5 W8.heap.size (kx sec (Qbn (strB s) ctx n) n) u W) v W'∧Ext W8 W') 59 #[.slice (some ⟨g4,0,none⟩) 32 32,z4,.int .i64 ((n:Nat):Int)] 72 rfl (by kernel_rfl) (by kernel_rfl) ((Qkd sec (Qbn (strB s) ctx n) _ _ _ _ n tc tq _ (QaS l8 (QaS l7 (Qac (QaS l5 (QaS l4 (Qac (Qac r1_1 e2) e3) (Qay r1_1)) (Qay r1_1)) e6) (Qay r1_1)) (Qay r1_1)) (QaS l8 (QaS l7 (Qac (QaS l5 (QaS l4 (Qac (Qac r2_1 e2) e3) (Qay r2_1)) (Qay r2_1)) e6) (Qay r2_1)) (Qay r2_1)) hn (by omega) (by rw [Qgz]; omega) hsb (QeO _ _ _ (Qff s) hxb hl hc2 hn) (QaU (xs:=sec) (n:=32) hsl r4_8 (Qay r4_8) (show 32≤maxLen from by decide)) (OwnN.rd hu28)).mono (by rintro e w' ⟨v,rfl,e1,hv⟩; exact ⟨v,rfl,hv,e1⟩)) fun vv31 W9 hh31=>?_
  obtain ⟨hv31,e9⟩:=hh31
  obtain ⟨uu,rfl,huu⟩:=hv31
  refine Qab (uu) 73 rfl (by kernel_rfl) (by kernel_rfl) <| Qab (.nilIface) 74 rfl (by kernel_rfl) (by kernel_rfl) <| Qab (uu) 8 rfl (by kernel_rfl) (by kernel_rfl) <| Qab (.nilIface) 9 rfl (by kernel_rfl) (by kernel_rfl) <| sgN hK29 <| wp_ret ?_
  repeat (first | with_reducible refine goR1 ?_ | with_reducible refine goR2 ?_)
  exact (show bodyPost _ _ _ .ret _ _ from ret2 (uu) (.nilIface) rfl (Qa2 (by kernel_rfl)) (Qa2 (by kernel_rfl)) ⟨_,rfl,(Ext.tr x8 e9),uu,rfl,OwnN.base x8.size huu⟩)
end Go.Proofs.YtibegnjaphohaaaDoor.Sha
end
section
namespace Go.Proofs.YtibegnjaphohaaaDoor.Sha
open Go Go.RowKit
open Rely Auto Own
theorem QgF {P : Program} {ρ:Operand→Value} {o:Oper} {w:World} (t:TypeId) (x:Operand) (n:Nat) (e:TypeId) {a:Option Addr} {len cap:Nat} (ho:o.op=.sliceToArrayPointer t x) (hx:ρ x=.slice a len cap) (hu:P.underlying t=some (.array n e)) (h:n≤len) :
    (execOp ρ o).run P w=.ok (.value (.pointer a)) w:=by
  unfold execOp
  simp [ho,hx,Instr.arrayAt,run_underlying hu,Nat.not_lt.2 h]
theorem Qgx {k : IntKind} {cur:Array Value} {xs:List Int} (h:cur.toList.take xs.length=xs.map (Value.int k)):∀ j v,(ints k xs)[j]? = some v→cur[0+j]? = some v:=fun j v hv=>by
  rw [Nat.zero_add]
  have hj:j<xs.length:=by
    have:=(Array.getElem?_eq_some_iff.1 hv).1
    rwa [Qad] at this
  rw [Qd4 h hj,←hv,Qbg _ _ _ hj]
def Qdh (xs : List Int) (n i:Nat):List Int:=xs.take i++List.replicate (n-i) 0
theorem Qg4 (xs : List Int) (n i:Nat) (h:xs.length=n) (hi:i≤n):(Qdh xs n i).length=n:=by unfold Qdh; rw [List.length_append,List.length_take,List.length_replicate]; omega
theorem Qfs (xs : List Int) (n:Nat):List.replicate n 0=Qdh xs n 0:=by unfold Qdh; rw [List.take_zero,Nat.sub_zero]; rfl
theorem Qfu (xs : List Int) (n:Nat) (h:xs.length=n):Qdh xs n n=xs:=by unfold Qdh; rw [Nat.sub_self,List.replicate_zero,List.append_nil,List.take_of_length_le (by omega)]
theorem Qft (xs : List Int) (n i:Nat) (h:xs.length=n) (hi:i<n):(Qdh xs n i).set i (nth xs i)=Qdh xs n (i+1):=by
  have hl:(xs.take i).length=i:=by rw [List.length_take]; omega
  unfold Qdh
  rw [List.set_append_right _ _ (by omega),hl,Nat.sub_self,show n-i=(n-(i+1))+1 by omega,List.replicate_succ,List.set_cons_zero]
  have e:xs.take (i+1)=xs.take i++[nth xs i]:=by
    rw [List.take_add_one,List.getElem?_eq_getElem (by omega)]
    simp [nth,show i<xs.length by omega]
  rw [e,List.append_assoc]
  rfl
def Qbx (sec lab:List Int):List Int:=if lab.length≤255 then kx sec (Qbn lab [] 32) 32 else List.replicate 32 0
theorem Qd7 (sec lab:List Int):(Qbx sec lab).length=32:=by
  unfold Qbx
  split
  · exact QbD _ _ _
  · exact List.length_replicate
theorem nilrd (W : World):RdK .u8 W.heap.size [] (.slice none 0 0) W:=OwnN.rd (Qb7 .u8 0 0 W)
theorem Qkt (sec : List Int) (s:ByteArray) (tc tq:TypeId) (w:World) (hc:w.heap[2]? = some (.cells (ints .u64 QaN) tc)) (hq:w.heap[1]? = some (.cells (ints .u64 Qam) tq)) (hsl:sec.length=32) (hsb:Qat sec) (h:(strB s).length≤255):Calls Tryd.prog 40 #[.agg (ints .u8 sec),.string s] w (Ret w (.agg (ints .u8 (Qbx sec (strB s))))):=by
  refine enter 19 [(0,.agg (ints .u8 (sec))),(1,.string s)] Tryd.func40 rfl rfl kj rfl <| sgC fun K3 hK3=>Qap (ints .u8 (sec)) 23 2 rfl kj kj fun g4 W1 l4 e1 r4_1=>?_
  have x1:=Ext.tr (Rely.Ext.refl w) e1
  have b4:=qT (Rely.Ext.refl w).size l4
  refine Qap (ints .u8 (List.replicate 32 0)) 23 4 rfl kj kj fun g5 W2 l5 e2 r5_2=>sgN hK3 <| sgC fun K6 hK6=>Qab (.agg (ints .u8 (sec))) 8 rfl kj (Qaq 23 _ g4 23 _ _ (Qac r4_1 e2) rfl kj kj (isz (n:=32) kj ((Qad _ _).trans hsl))) <| sg 1 kj <| Qa6 (fun v W'=>(fun v W=>∃ u,v=.tuple #[u,.nilIface]∧OwnN .u8 5 W2.heap.size (kx sec (Qbn (strB s) [] 32) 32) u W) v W'∧Ext W2 W') 51 #[.agg (ints .u8 (sec)),.string s,.slice none 0 0,.int .i64 32] 10 rfl kj kj ((QkI sec [] s (.slice none 0 0) _ tc tq _ (Qac (Qac hc e1) e2) (Qac (Qac hq e1) e2) hsl hsb (fun x hx=>by cases hx) (nilrd _) 32 (by decide) h (by decide)).mono (by rintro e w' ⟨v,rfl,e1,hv⟩; exact ⟨v,rfl,hv,e1⟩)) fun vv7 W3 hh7=>?_
  obtain ⟨hv7,e3⟩:=hh7
  obtain ⟨uu,rfl,huu⟩:=hv7
  obtain ⟨gu,cu,curu,rfl,-,hru,-,-,-,htu⟩:=Qdc huu (by rw [QbD]; decide)
  refine sg 5 kj <| sgN hK6 <| wp_seq_k fun K8 hK8=>sgB kj <| cond_false kj <| wp_skip <| hK8 _ _ <| sgC fun K10 hK10=>sg 1 kj <| Qab (.pointer (some ⟨gu,0,none⟩)) 17 rfl kj (QgF 23 _ 32 5 (a:=some ⟨gu,0,none⟩) (len:=(kx sec (Qbn (strB s) [] 32) 32).length) (cap:=cu) rfl kj kj (by rw [QbD]; exact qR _)) ?_
  refine Qab (.agg (ints .u8 (kx sec (Qbn (strB s) [] 32) 32))) 18 rfl kj (QaK 23 _ gu 0 5 _ _ _ (Qac hru (Rely.Ext.refl W3)) rfl kj (Qgx htu) kj (isz (n:=32) kj ((Qad _ _).trans (QbD _ _ _)))) ?_
  have r5_3:=(Qac r5_2 e3)
  refine Qaj g5 _ (ints .u8 (kx sec (Qbn (strB s) [] 32) 32)) 23 r5_3 rfl kj (Qal 23 _ _ g5 23 _ _ r5_3 rfl kj kj (isz (n:=32) kj ((Qad _ _).trans (QbD _ _ _))) (eqsz (n:=32) ((Qad _ _).trans (List.length_replicate (n:=32))) ((Qad _ _).trans (QbD _ _ _))) (Qau _ _)) fun W4 p4 r5_4=>sgN hK10 <| wp_ret ?_
  repeat (first | with_reducible refine goR1 ?_ | with_reducible refine goR2 ?_)
  exact (show bodyPost _ _ _ .ret _ _ from ret1 (.agg (ints .u8 (kx sec (Qbn (strB s) [] 32) 32))) rfl (QaE g5 23 _ r5_4 kj kj (isz (n:=32) kj ((Qad _ _).trans (QbD _ _ _)))) ⟨congrArg (fun z=>Ending.returned (.agg (ints .u8 z))) (show _=Qbx sec (strB s) by unfold Qbx; rw [if_pos h]),(Puts.ext p4 (Ext.tr (Ext.tr x1 e2) e3) (qT x1.size l5))⟩)
theorem Qks (sec : List Int) (s:ByteArray) (tc tq:TypeId) (w:World) (hc:w.heap[2]? = some (.cells (ints .u64 QaN) tc)) (hq:w.heap[1]? = some (.cells (ints .u64 Qam) tq)) (hsl:sec.length=32) (hsb:Qat sec) (h:255<(strB s).length):Calls Tryd.prog 40 #[.agg (ints .u8 sec),.string s] w (Ret w (.agg (ints .u8 (Qbx sec (strB s))))):=by
  refine enter 19 [(0,.agg (ints .u8 (sec))),(1,.string s)] Tryd.func40 rfl rfl kj rfl <| sgC fun K3 hK3=>Qap (ints .u8 (sec)) 23 2 rfl kj kj fun g4 W1 l4 e1 r4_1=>?_
  have x1:=Ext.tr (Rely.Ext.refl w) e1
  have b4:=qT (Rely.Ext.refl w).size l4
  refine Qap (ints .u8 (List.replicate 32 0)) 23 4 rfl kj kj fun g5 W2 l5 e2 r5_2=>sgN hK3 <| sgC fun K6 hK6=>Qab (.agg (ints .u8 (sec))) 8 rfl kj (Qaq 23 _ g4 23 _ _ (Qac r4_1 e2) rfl kj kj (isz (n:=32) kj ((Qad _ _).trans hsl))) <| sg 1 kj <| Qar (.tuple #[.slice none 0 0,.iface 47 (.int .i64 4)]) 51 #[.agg (ints .u8 (sec)),.string s,.slice none 0 0,.int .i64 32] 10 rfl kj kj ((fun W hc hq=>QlB sec [] s (.slice none 0 0) _ tc tq W hc hq hsl hsb (fun x hx=>by cases hx) (nilrd W) 32 (by decide) (by decide) h) _ (Qac (Qac hc e1) e2) (Qac (Qac hq e1) e2)) fun W3 e3=>sg 5 kj <| sgN hK6 <| wp_seq_k fun K7 hK7=>sgB kj ?_
  refine cond_true kj <| sgC fun K9 hK9=>sg 1 kj ?_
  have r5_3:=(Qac r5_2 e3)
  refine Qaj g5 _ (ints .u8 (List.replicate 32 0)) 23 r5_3 rfl kj (Qal 23 _ _ g5 23 _ _ r5_3 rfl kj kj (isz (n:=32) kj ((Qad _ _).trans (List.length_replicate (n:=32)))) (eqsz (n:=32) ((Qad _ _).trans (List.length_replicate (n:=32))) ((Qad _ _).trans (List.length_replicate (n:=32)))) (Qau _ _)) fun W4 p4 r5_4=>sgN hK9 <| wp_ret ?_
  repeat (first | with_reducible refine goR1 ?_ | with_reducible refine goR2 ?_)
  exact (show bodyPost _ _ _ .ret _ _ from ret1 (.agg (ints .u8 (List.replicate 32 0))) rfl (QaE g5 23 _ r5_4 kj kj (isz (n:=32) kj ((Qad _ _).trans (List.length_replicate (n:=32))))) ⟨congrArg (fun z=>Ending.returned (.agg (ints .u8 z))) (show _=Qbx sec (strB s) by unfold Qbx; rw [if_neg (by omega)]),(Puts.ext p4 (Ext.tr (Ext.tr x1 e2) e3) (qT x1.size l5))⟩)
theorem QgW (sec : List Int) (s:ByteArray) (tc tq:TypeId) (w:World) (hc:w.heap[2]? = some (.cells (ints .u64 QaN) tc)) (hq:w.heap[1]? = some (.cells (ints .u64 Qam) tq)) (hsl:sec.length=32) (hsb:Qat sec):Calls Tryd.prog 40 #[.agg (ints .u8 sec),.string s] w (Ret w (.agg (ints .u8 (Qbx sec (strB s))))):=by
  by_cases h:(strB s).length≤255
  · exact Qkt sec s tc tq w hc hq hsl hsb h
  · exact Qks sec s tc tq w hc hq hsl hsb (by omega)
end Go.Proofs.YtibegnjaphohaaaDoor.Sha
end
section
namespace Go.Proofs.YtibegnjaphohaaaDoor.Auto
open Go Go.RowKit
open Rely
structure MpW (es : Array MapEntry) (clock : Nat) (m : List (Int × Value)) : Prop where
  ents:es.toList.map (fun e=>(e.key,e.val))=m.map fun p=>(Value.int .i64 p.1,p.2)
  nod:(m.map Prod.fst).Nodup
  born:(es.toList.map (·.born)).Nodup
  old:∀ e∈es.toList,e.born<clock
def MpAt (g : Nat) (m:List (Int×Value)) (W:World):Prop:=∃ es clock,W.heap[g]? = some (.map es clock)∧MpW es clock m
def mget (m : List (Int×Value)) (k:Int) (z:Value):Value:=((m.find? fun p=>p.1==k).map Prod.snd).getD z
theorem QiX (c : Nat):MpW #[] c []:=⟨rfl,List.nodup_nil,List.nodup_nil,fun e h=>by cases h⟩
theorem MpAt.lt {g : Nat} {m:List (Int×Value)} {W:World} (h:MpAt g m W):g<W.heap.size:=by obtain ⟨es,c,h1,-⟩:=h; exact Qay h1
theorem MpAt.keep {g : Nat} {m:List (Int×Value)} {W W':World} (h:MpAt g m W) (e:W'.heap[g]? = W.heap[g]?):MpAt g m W':=by obtain ⟨es,c,h1,h2⟩:=h; exact ⟨es,c,e.trans h1,h2⟩
theorem MpAt.ext {g : Nat} {m:List (Int×Value)} {W W':World} (h:MpAt g m W) (e:Ext W W'):MpAt g m W':=h.keep (e.block g h.lt)
theorem MpAt.ne {g k:Nat} {m:List (Int×Value)} {W:World} {cs:Array Value} {T:TypeId} {fr:Nat×Nat} (h:MpAt g m W) (r:W.heap[k]? = some (.cells cs T fr)):k≠g:=fun e=>by
  obtain ⟨es,c,h1,-⟩:=h
  rw [e,h1] at r
  cases r
theorem MpAt.puts {g k:Nat} {m:List (Int×Value)} {W W':World} (h:MpAt g m W) (p:Puts W k W') (hn:g≠k):MpAt g m W':=h.keep (p.2.2.2.2 g hn)
theorem QcR (k : Int):∀ (es:List MapEntry) (m:List (Int×Value)) (i:Nat),es.map (fun e=>(e.key,e.val))=m.map (fun p=>(Value.int .i64 p.1,p.2)) →
    (Instr.findNow (.int .i64) (.int .i64 k) es i=some none∧m.find? (fun p=>p.1==k)=none∧∀ e∈es,e.key≠.int .i64 k)∨∃ j v e,Instr.findNow (.int .i64) (.int .i64 k) es i=some (some (i+j,v))∧m.find? (fun p=>p.1==k)=some (k,v)∧es[j]? = some e∧e.key=.int .i64 k
  | [],[],i,_=>.inl ⟨rfl,rfl,fun e h=>by cases h⟩
  | [],_::_,i,h=>by cases h
  | _::_,[],i,h=>by cases h
  | e::es,p::m,i,h=>by
    simp only [List.map_cons,List.cons.injEq,Prod.mk.injEq] at h
    obtain ⟨⟨h1,h2⟩,h3⟩:=h
    have hs:Instr.sameNow (.int .i64) (.int .i64 k) e.key=some (k==p.1):=by rw [h1]; simp [Instr.sameNow]
    by_cases hk:p.1=k
    · right
      refine ⟨0,p.2,e,?_,?_,rfl,by rw [h1,hk]⟩
      · rw [Instr.findNow,hs,hk,beq_self_eq_true,h2]; rfl
      · rw [List.find?_cons_of_pos (by simp [hk])]; congr 1; exact Prod.ext hk rfl
    · have hs':Instr.sameNow (.int .i64) (.int .i64 k) e.key=some false:=by rw [hs]; congr 1; simp; exact fun q=>hk q.symm
      rcases QcR k es m (i+1) h3 with ⟨q1,q2,q3⟩ | ⟨j,v,e',q1,q2,q3,q4⟩
      · left
        refine ⟨by rw [Instr.findNow,hs']; exact q1,by rw [List.find?_cons_of_neg (by simp [hk])]; exact q2,fun x hx=>?_⟩
        rcases List.mem_cons.1 hx with rfl | hx
        · rw [h1]; exact fun q=>hk (by injection q)
        · exact q3 x hx
      · right
        exact ⟨j+1,v,e',by rw [Instr.findNow,hs']; show Instr.findNow _ _ es (i+1)=_; rw [q1,show i+1+j=i+(j+1) by omega],by rw [List.find?_cons_of_neg (by simp [hk])]; exact q2,by rw [List.getElem?_cons_succ]; exact q3,q4⟩
section
variable {P : Program} {ρ : Operand → Value} {o : Oper} {w : World}
theorem Qi6 (t : TypeId) (m k:Operand) {kt et:TypeId} {g:Nat} {n:Int} {ms:List (Int×Value)} {z:Value} (ho:o.op=.lookup t m k false) (hm:ρ m=.map (some g)) (hk:ρ k=.int .i64 n)
    (ht:P.underlying t=some (.map kt et)) (hkt:P.underlying kt=some (.int .i64)) (h:MpAt g ms w) (hz:(zeroValue et).run P w=.ok z w):(execOp ρ o).run P w=.ok (.value (mget ms n z)) w:=by
  obtain ⟨es,c,hg,hM⟩:=h
  have hl:(Instr.lookup t (.map (some g)) (.int .i64 n) false).run P w=.ok (mget ms n z) w:=by
    unfold Instr.lookup
    rw [Sem.run_bind,run_underlying ht]
    show ((getObj g >>= _) >>= _:Sem Value).run P w=_
    rw [Sem.run_bind,Sem.run_bind,MapKept.run_getObj_map hg]
    show ((Instr.checkKey es.isEmpty 10000 kt (.int .i64 n)) >>= _:Sem Value).run P w=_
    rw [Sem.run_bind,MapKept.run_checkKey hkt (by simp [MapKept.IsKey])]
    rcases QcR n es.toList ms 0 hM.ents with ⟨q1,q2,-⟩ | ⟨j,v,e,q1,q2,-,-⟩
    · have hf:=MapKept.run_findKey (P:=P) (w:=w) hkt q1
      unfold mget
      rw [q2]
      simp [Sem.run_bind,hf,Result.andThen,hz]
    · have hf:=MapKept.run_findKey (P:=P) (w:=w) hkt q1
      unfold mget
      rw [q2]
      simp [Sem.run_bind,hf,Result.andThen]
  unfold execOp
  simp only [ho,hm,hk,Sem.run_bind,hl,Result.andThen_ok,Sem.run_pure]
theorem QjX {es : Array MapEntry} {c:Nat} {m:List (Int×Value)} (h:MpW es c m) {n:Int} {v:Value} (hn:n∉m.map Prod.fst):MpW (es.push { key:=.int .i64 n,val:=v,born:=c }) (c+1) (m++[(n,v)]):=by
  refine ⟨?_,?_,?_,?_⟩
  · rw [Array.toList_push,List.map_append,h.ents,List.map_append]; rfl
  · rw [List.map_append]
    refine List.nodup_append.2 ⟨h.nod,(List.nodup_cons.2 ⟨List.not_mem_nil,List.nodup_nil⟩),fun a ha b hb=>?_⟩
    rw [List.map_singleton,List.mem_singleton] at hb
    subst hb
    exact fun q=>hn (q▸ha)
  · rw [Array.toList_push,List.map_append]
    refine List.nodup_append.2 ⟨h.born,(List.nodup_cons.2 ⟨List.not_mem_nil,List.nodup_nil⟩),fun a ha b hb=>?_⟩
    obtain ⟨e,he,rfl⟩:=List.mem_map.1 ha
    rw [List.map_singleton,List.mem_singleton] at hb
    subst hb
    exact Nat.ne_of_lt (h.old e he)
  · intro e he
    rw [Array.toList_push,List.mem_append,List.mem_singleton] at he
    rcases he with he | rfl
    · exact Nat.lt_succ_of_lt (h.old e he)
    · exact Nat.lt_succ_self _
theorem Qly {m : List (Int×Value)} {n:Int} (h:n∉m.map Prod.fst):m.find? (fun p=>p.1==n)=none:=by
  rw [List.find?_eq_none]
  intro p hp q
  exact h (List.mem_map.2 ⟨p,hp,by simpa using q⟩)
theorem Qhj (t : TypeId) (m k x:Operand) {kt et:TypeId} {g:Nat} {n:Int} {ms:List (Int×Value)} {v:Value} (ho:o.op=.mapUpdate t m k x) (hm:ρ m=.map (some g)) (hk:ρ k=.int .i64 n) (hx:ρ x=v)
    (ht:P.underlying t=some (.map kt et)) (hkt:P.underlying kt=some (.int .i64)) (h:MpAt g ms w) (hn:n∉ms.map Prod.fst):∃ W',(execOp ρ o).run P w=.ok .skip W'∧Puts w g W'∧MpAt g (ms++[(n,v)]) W':=by
  obtain ⟨es,c,hg,hM⟩:=h
  rcases QcR n es.toList ms 0 hM.ents with ⟨q1,-,-⟩ | ⟨j,u,e,q1,q2,-,-⟩
  · have hf:=MapKept.run_findKey (P:=P) (w:=w) hkt q1
    have hi:(Instr.mapUpdate t (.map (some g)) (.int .i64 n) v).run P w=.ok () { w with heap:=w.heap.setIfInBounds g (.map (es.push { key:=.int .i64 n,val:=v,born:=c }) (c+1)) }:=by
      unfold Instr.mapUpdate
      rw [Sem.run_bind,run_underlying ht]
      show ((getObj g) >>= _:Sem Unit).run P w=_
      rw [Sem.run_bind,MapKept.run_getObj_map hg]
      show ((Instr.checkKey false 10000 kt (.int .i64 n)) >>= _:Sem Unit).run P w=_
      rw [Sem.run_bind,MapKept.run_checkKey hkt (by simp [MapKept.IsKey])]
      show ((Instr.findKey kt (.int .i64 n) es.toList) >>= _:Sem Unit).run P w=_
      rw [Sem.run_bind,hf]
      exact MapKept.run_setObj_map _ hg
    have hh:=MapKept.heap_set (o':=.map (es.push { key:=.int .i64 n,val:=v,born:=c }) (c+1)) hg
    refine ⟨{ w with heap:=w.heap.setIfInBounds g (.map (es.push { key:=.int .i64 n,val:=v,born:=c }) (c+1)) },?_,⟨rfl,rfl,rfl,by simp,fun i hi=>hh.2 i hi⟩,_,_,hh.1,QjX hM hn⟩
    unfold execOp
    rw [ho]
    show ((Instr.mapUpdate t (ρ m) (ρ k) (ρ x)) >>= _).run P w=_
    rw [hm,hk,hx,Sem.run_bind,hi]
    rfl
  · rw [Qly hn] at q2; cases q2
theorem Qez {α β:Type} (f:α→β) (p:β→Bool):∀ l:List α,(l.map f).filter p=(l.filter fun x=>p (f x)).map f
  | []=>rfl
  | x::l=>by
    rw [List.map_cons,List.filter_cons,List.filter_cons,Qez f p l]
    split <;> rfl
theorem Qfo {es : Array MapEntry} {c:Nat} {m:List (Int×Value)} (h:MpW es c m) (q:Int→Bool) (es':Array MapEntry) (he:es'.toList=es.toList.filter fun e=>match e.key with | .int _ n=>q n | _=>true):MpW es' c (m.filter fun p=>q p.1):=by
  refine ⟨?_,?_,?_,?_⟩
  · rw [he]
    have e1:=Qez (fun e:MapEntry=>(e.key,e.val)) (fun x=>match x.1 with | .int _ n=>q n | _=>true) es.toList
    have e2:=Qez (fun p:Int×Value=>(Value.int .i64 p.1,p.2)) (fun x=>match x.1 with | .int _ n=>q n | _=>true) m
    rw [←e1,h.ents,e2]
  · exact h.nod.sublist ((List.filter_sublist).map _)
  · rw [he]; exact h.born.sublist ((List.filter_sublist).map _)
  · intro e hm; rw [he] at hm; exact h.old e (List.mem_filter.1 hm).1
def nk (n : Int) (e:MapEntry):Bool:=match e.key with | .int _ x=>x != n | _=>true
theorem Qfn {n x:Int} {e:MapEntry} (h:e.key=.int .i64 x):nk n e=(x != n):=by unfold nk; rw [h]
theorem Qdi {n : Int}:∀ (l:List MapEntry) (j:Nat) (e:MapEntry),(l.map (·.key)).Nodup→(∀ x∈l,∃ a,x.key=Value.int .i64 a)→l[j]? = some e→e.key=.int .i64 n→l.eraseIdx j=l.filter (nk n)
  | [],_,_,_,_,h,_=>by simp at h
  | x::l,0,e,hn,hi,h,hk=>by
    simp only [List.getElem?_cons_zero,Option.some.injEq] at h
    subst h
    rw [List.eraseIdx_cons_zero,List.filter_cons_of_neg (by rw [Qfn hk]; simp)]
    rw [List.map_cons,List.nodup_cons] at hn
    refine (List.filter_eq_self.2 fun y hy=>?_).symm
    obtain ⟨a,ha⟩:=hi y (List.mem_cons_of_mem _ hy)
    rw [Qfn ha]
    simp only [bne_iff_ne,ne_eq]
    exact fun q=>hn.1 (by rw [hk,←q,←ha]; exact List.mem_map_of_mem (f:=fun e:MapEntry=>e.key) hy)
  | x::l,j+1,e,hn,hi,h,hk=>by
    rw [List.getElem?_cons_succ] at h
    rw [List.map_cons,List.nodup_cons] at hn
    obtain ⟨a,ha⟩:=hi x (List.mem_cons_self ..)
    have hx:nk n x=true:=by
      rw [Qfn ha]
      simp only [bne_iff_ne,ne_eq]
      exact fun q=>hn.1 (by rw [ha,q,←hk]; exact List.mem_map_of_mem (f:=fun e:MapEntry=>e.key) (List.mem_of_getElem? h))
    rw [List.eraseIdx_cons_succ,List.filter_cons_of_pos hx,Qdi l j e hn.2 (fun y hy=>hi y (List.mem_cons_of_mem _ hy)) h hk]
theorem Qeb {es : Array MapEntry} {c:Nat} {m:List (Int×Value)} (h:MpW es c m):(es.toList.map (·.key)).Nodup:=by
  have e:es.toList.map (·.key)=(m.map Prod.fst).map (Value.int .i64):=by
    have:=congrArg (List.map Prod.fst) h.ents
    rw [List.map_map,List.map_map] at this
    rw [List.map_map]
    exact this
  rw [e]
  exact List.Pairwise.map _ (fun a b q r=>q (by injection r)) h.nod
theorem QeL {es : Array MapEntry} {c:Nat} {m:List (Int×Value)} (h:MpW es c m) {e:MapEntry} (he:e∈es.toList):∃ n,e.key=.int .i64 n:=by
  have:=List.mem_map_of_mem (f:=fun e:MapEntry=>(e.key,e.val)) he
  rw [h.ents,List.mem_map] at this
  obtain ⟨p,-,hp⟩:=this
  exact ⟨p.1,(congrArg Prod.fst hp).symm⟩
theorem QgX {kt et:TypeId} {es:Array MapEntry} {c:Nat} {m:List (Int×Value)} (h:MpW es c m) (hkt:P.underlying kt=some (.int .i64)) {g:Nat} (hg:w.heap[g]? = some (.map es c)) (n:Int) {t:TypeId} {ty:TypeId} (ht:P.underlying t=some (.map kt et)) :
    ∃ es',es'.toList=es.toList.filter (nk n)∧(Builtin.delete_ #[t,kt] ty #[.map (some g),.int .i64 n]).run P w=.ok (.tuple #[]) { w with heap:=w.heap.setIfInBounds g (.map es' c) }:=by
  rcases QcR n es.toList m 0 h.ents with ⟨q1,-,q3⟩ | ⟨j,v,e,q1,q2,q3,q4⟩
  · refine ⟨es,(List.filter_eq_self.2 fun x hx=>by
      obtain ⟨a,ha⟩:=QeL h hx
      rw [Qfn ha]; simp only [bne_iff_ne,ne_eq]; exact fun q=>q3 x hx (by rw [ha,q])).symm,?_⟩
    have hf:=MapKept.run_findKey (P:=P) (w:=w) hkt q1
    simp [Builtin.delete_,run_underlying ht,MapKept.run_getObj_map hg,MapKept.run_checkKey hkt (show MapKept.IsKey (.int .i64) (.int .i64 n) by simp [MapKept.IsKey]),hf,MapKept.run_setObj_map _ hg,Result.andThen]
  · refine ⟨es.eraseIdxIfInBounds j,?_,?_⟩
    · have hj:j<es.size:=by have:=(List.getElem?_eq_some_iff.1 q3).1; simpa using this
      rw [Array.eraseIdxIfInBounds_eq,dif_pos hj,Array.toList_eraseIdx]
      exact Qdi _ j e (Qeb h) (fun x hx=>QeL h hx) q3 q4
    · have hf:=MapKept.run_findKey (P:=P) (w:=w) hkt q1
      rw [Nat.zero_add] at hf
      simp [Builtin.delete_,run_underlying ht,MapKept.run_getObj_map hg,MapKept.run_checkKey hkt (show MapKept.IsKey (.int .i64) (.int .i64 n) by simp [MapKept.IsKey]),hf,MapKept.run_setObj_map _ hg,Result.andThen]
theorem Qi8 {w' : World} (m k:Operand) (t kt:TypeId) {g:Nat} {n:Int} (ho:o.op=.call { callee:=.builtin .delete,args:=#[m,k],argTypes:=#[t,kt] }) (hm:ρ m=.map (some g)) (hk:ρ k=.int .i64 n)
    (h:(Builtin.delete_ #[t,kt] o.type #[.map (some g),.int .i64 n]).run P w=.ok (.tuple #[]) w'):(execOp ρ o).run P w=.ok (.value (.tuple #[])) w':=by
  unfold execOp
  simp only [ho,resolve,invoke,builtin,Sem.run_bind,Sem.run_pure,Result.andThen_ok,List.map_toArray,List.map_cons,List.map_nil,hm,hk,h]
theorem QjD (m k:Operand) (t:TypeId) {kt et:TypeId} {g:Nat} {n:Int} {ms:List (Int×Value)} (ho:o.op=.call { callee:=.builtin .delete,args:=#[m,k],argTypes:=#[t,kt] }) (hm:ρ m=.map (some g)) (hk:ρ k=.int .i64 n)
    (ht:P.underlying t=some (.map kt et)) (hkt:P.underlying kt=some (.int .i64)) (h:MpAt g ms w):∃ W',(execOp ρ o).run P w=.ok (.value (.tuple #[])) W'∧Puts w g W'∧MpAt g (ms.filter fun p=>p.1 != n) W':=by
  obtain ⟨es,c,hg,hM⟩:=h
  obtain ⟨es',he,hr⟩:=QgX (P:=P) (w:=w) hM hkt hg n (ty:=o.type) ht
  have hh:=MapKept.heap_set (o':=.map es' c) hg
  exact ⟨_,Qi8 m k t kt ho hm hk hr,⟨rfl,rfl,rfl,by simp,fun i hi=>hh.2 i hi⟩,es',c,hh.1,Qfo hM (fun x=>x != n) es' he⟩
theorem Qhi (m : Operand) (t:TypeId) {kt et:TypeId} {g:Nat} {ms:List (Int×Value)} (ho:o.op=.call { callee:=.builtin .len,args:=#[m],argTypes:=#[t] }) (hm:ρ m=.map (some g)) (ht:P.underlying t=some (.map kt et)) (h:MpAt g ms w):(execOp ρ o).run P w=.ok (.value (.int .i64 ((ms.length:Nat):Int))) w:=by
  obtain ⟨es,c,hg,hM⟩:=h
  have hl:es.size=ms.length:=by have:=congrArg List.length hM.ents; simpa using this
  unfold execOp
  simp [ho,resolve,invoke,builtin,Sem.run_bind,Sem.run_pure,Result.andThen_ok,hm,Builtin.len_,run_underlying ht,MapKept.run_getObj_map hg,hl,Result.andThen,goInt]
end
def km (lim : Int) (e:MapEntry):Bool:=match e.key with | .int _ x=>decide (lim≤x) | _=>true
theorem Qjb {lim x:Int} {e:MapEntry} (h:e.key=.int .i64 x):km lim e=decide (lim≤x):=by unfold km; rw [h]
def rkeep (lim : Int) (sn:Array Nat) (e:MapEntry):Bool:=km lim e || !sn.contains e.born
def QcW (g r:Nat) (lim:Int) (es0:Array MapEntry) (c:Nat) (sn:Array Nat) (W:World):Prop:=∃ es:Array MapEntry,es.toList=es0.toList.filter (rkeep lim sn)∧W.heap[g]? = some (.map es c)∧W.heap[r]? = some (.mapIter (some g) c sn c)
def Qdm (g r:Nat) (lim:Int) (es0:Array MapEntry) (c:Nat) (sn:Array Nat) (e:MapEntry) (W:World):Prop:=∃ es:Array MapEntry,es.toList=es0.toList.filter (rkeep lim sn)∧W.heap[g]? = some (.map es c)∧W.heap[r]? = some (.mapIter (some g) c (sn.push e.born) c)∧e∈es.toList∧sn.contains e.born=false
def rmu (es0 : Array MapEntry) (sn:Array Nat):Nat:=(es0.toList.filter fun e=>!sn.contains e.born).length
theorem QdI {α β:Type} (f:α→β):∀ l:List α,(l.map f).Nodup→∀ a∈l,∀ b∈l,f a=f b→a=b
  | [],_,a,ha,_,_,_=>by cases ha
  | x::l,h,a,ha,b,hb,e=>by
    rw [List.map_cons,List.nodup_cons] at h
    rcases List.mem_cons.1 ha with ha' | ha' <;> rcases List.mem_cons.1 hb with hb' | hb'
    · rw [ha',hb']
    · exact absurd (by rw [←ha',e]; exact List.mem_map_of_mem (f:=f) hb') h.1
    · exact absurd (by rw [←hb',←e]; exact List.mem_map_of_mem (f:=f) ha') h.1
    · exact QdI f l h.2 a ha' b hb' e
theorem QeT {α : Type} (p q:α→Bool):∀ l:List α,(∀ x∈l,q x=true→p x=true)→∀ a∈l,p a=true→q a=false→(l.filter q).length<(l.filter p).length
  | [],_,a,ha,_,_=>by cases ha
  | x::l,h,a,ha,hp,hq=>by
    have hl:(l.filter q).length≤(l.filter p).length:=by
      have:∀ l:List α,(∀ x∈l,q x=true→p x=true)→(l.filter q).length≤(l.filter p).length:=by
        intro l
        induction l with
        | nil=>exact fun _=>qR _
        | cons y l ih =>
          intro h
          have ih:=ih fun x hx=>h x (List.mem_cons_of_mem _ hx)
          rw [List.filter_cons,List.filter_cons]
          cases hqy:q y with
          | true=>rw [h y (List.mem_cons_self ..) hqy]; simp only [if_true,List.length_cons]; omega
          | false =>
            simp only [Bool.false_eq_true,if_false]
            cases p y
            · simpa using ih
            · simp only [if_true,List.length_cons]; omega
      exact this l fun x hx=>h x (List.mem_cons_of_mem _ hx)
    rw [List.filter_cons,List.filter_cons]
    rcases List.mem_cons.1 ha with ha | ha
    · subst ha
      rw [hp,hq]
      simp only [if_true,Bool.false_eq_true,if_false,List.length_cons]; omega
    · have ih:=QeT p q l (fun x hx=>h x (List.mem_cons_of_mem _ hx)) a ha hp hq
      cases hqx:q x with
      | true=>rw [h x (List.mem_cons_self ..) hqx]; simp only [if_true,List.length_cons]; omega
      | false =>
        simp only [Bool.false_eq_true,if_false]
        cases p x
        · simpa using ih
        · simp only [if_true,List.length_cons]; omega
theorem Qew (sn : Array Nat) (b x:Nat):(sn.push b).contains x=(sn.contains x || x==b):=by
  rw [←Array.contains_toList,Array.toList_push,←Array.contains_toList]
  rw [Bool.eq_iff_iff]
  simp [List.contains_eq_mem,List.mem_append]
theorem Qdm.mu {g r:Nat} {lim:Int} {es0:Array MapEntry} {c:Nat} {sn:Array Nat} {e:MapEntry} {W:World} (h:Qdm g r lim es0 c sn e W):rmu es0 (sn.push e.born)<rmu es0 sn:=by
  obtain ⟨es,he,-,-,hm,hs⟩:=h
  unfold rmu
  rw [he] at hm
  refine QeT _ _ _ (fun x _ hx=>?_) e (List.mem_filter.1 hm).1 (by rw [hs]; rfl) (by rw [Qew,beq_self_eq_true,Bool.or_true]; rfl)
  rw [Qew] at hx
  revert hx
  cases sn.contains x.born <;> simp
section
variable {es0 : Array MapEntry} {c : Nat} {m0 : List (Int × Value)} {g r : Nat} {lim : Int} {sn : Array Nat} {W : World}
theorem QcW.start (hM : MpW es0 c m0) (hg:W.heap[g]? = some (.map es0 c)) (hr:W.heap[r]? = some (.mapIter (some g) c #[] c)):QcW g r lim es0 c #[] W :=
  ⟨es0,(List.filter_eq_self.2 fun e _=>by unfold rkeep; simp).symm,hg,hr⟩
theorem QcW.done (hM : MpW es0 c m0) (h:QcW g r lim es0 c sn W) (h0:∀ es,W.heap[g]? = some (.map es c)→(leftOf es sn).size=0):MpAt g (m0.filter fun p=>decide (lim≤p.1)) W:=by
  obtain ⟨es,he,hg,hr⟩:=h
  have hl:=h0 es hg
  refine ⟨es,c,hg,Qfo hM (fun x=>decide (lim≤x)) es ?_⟩
  show _=es0.toList.filter (km lim)
  rw [he]
  refine List.filter_congr fun e hm=>?_
  unfold rkeep
  cases hk:km lim e with
  | true=>rfl
  | false =>
    rw [Bool.false_or]
    cases hs:sn.contains e.born with
    | true=>rfl
    | false =>
      exfalso
      have h1:e∈leftOf es sn:=by
        unfold leftOf
        rw [Array.mem_filter]
        refine ⟨?_,by rw [hs]; rfl⟩
        rw [←Array.mem_toList_iff,he,List.mem_filter]
        exact ⟨hm,by unfold rkeep; rw [hs]; simp⟩
      rw [Array.eq_empty_of_size_eq_zero hl] at h1
      cases h1 with | mk h=>cases h
theorem Qdm.stay (hM : MpW es0 c m0) {e:MapEntry} (h:Qdm g r lim es0 c sn e W) (hk:km lim e=true):QcW g r lim es0 c (sn.push e.born) W:=by
  obtain ⟨es,he,hg,hr,hm,hs⟩:=h
  refine ⟨es,he.trans (List.filter_congr fun f hf=>?_),hg,hr⟩
  unfold rkeep
  rw [Qew]
  by_cases hb:f.born=e.born
  · have hm':=hm
    rw [he] at hm'
    rw [QdI (·.born) _ hM.born f hf e (List.mem_filter.1 hm').1 hb,hk]
    rfl
  · rw [show (f.born==e.born)=false from by simpa using hb,Bool.or_false]
theorem Qdm.drop (hM : MpW es0 c m0) {e:MapEntry} {x:Int} (h:Qdm g r lim es0 c sn e W) (hx:e.key=.int .i64 x) (hk:x<lim) {P:Program} {t kt et ty:TypeId} (ht:P.underlying t=some (.map kt et)) (hkt:P.underlying kt=some (.int .i64)) :
    ∃ W',(Builtin.delete_ #[t,kt] ty #[.map (some g),.int .i64 x]).run P W=.ok (.tuple #[]) W'∧Puts W g W'∧QcW g r lim es0 c (sn.push e.born) W':=by
  obtain ⟨es,he,hg,hr,hm,hs⟩:=h
  have hME:MpW es c (m0.filter fun p=>true)∨True:=.inr trivial
  have hnb:(es.toList.map (·.born)).Nodup:=by rw [he]; exact hM.born.sublist ((List.filter_sublist).map _)
  have hnk:(es.toList.map (·.key)).Nodup:=by rw [he]; exact (Qeb hM).sublist ((List.filter_sublist).map _)
  have hik:∀ y∈es.toList,∃ a,y.key=Value.int .i64 a:=fun y hy=>by rw [he] at hy; exact QeL hM (List.mem_filter.1 hy).1
  have hm':=hm
  rw [he] at hm'
  have he0:=(List.mem_filter.1 hm').1
  obtain ⟨j,hj⟩:=List.mem_iff_getElem?.1 hm
  have hgr:g≠r:=fun q=>by rw [q,hr] at hg; cases hg
  have hfn:∀ (l:List MapEntry) (i:Nat),(∀ y∈l,∃ a,y.key=Value.int .i64 a)→(∃ y∈l,y.key=.int .i64 x)→∃ j v y,Instr.findNow (.int .i64) (.int .i64 x) l i=some (some (i+j,v))∧l[j]? = some y∧y.key=.int .i64 x:=by
    intro l
    induction l with
    | nil=>intro i _ h; obtain ⟨y,hy,-⟩:=h; cases hy
    | cons z l ih =>
      intro i hi hy
      obtain ⟨a,ha⟩:=hi z (List.mem_cons_self ..)
      have hsn:Instr.sameNow (.int .i64) (.int .i64 x) z.key=some (x==a):=by rw [ha]; simp [Instr.sameNow]
      by_cases hxa:a=x
      · exact ⟨0,z.val,z,by rw [Instr.findNow,hsn,hxa,beq_self_eq_true]; rfl,rfl,by rw [ha,hxa]⟩
      · have hsn':Instr.sameNow (.int .i64) (.int .i64 x) z.key=some false:=by rw [hsn]; congr 1; simp; exact fun q=>hxa q.symm
        obtain ⟨y,hy1,hy2⟩:=hy
        have hyl:y∈l:=by
          rcases List.mem_cons.1 hy1 with rfl | hy1
          · rw [ha] at hy2; exact absurd (by injection hy2) hxa
          · exact hy1
        obtain ⟨j,v,y',q1,q2,q3⟩:=ih (i+1) (fun y hy=>hi y (List.mem_cons_of_mem _ hy)) ⟨y,hyl,hy2⟩
        exact ⟨j+1,v,y',by rw [Instr.findNow,hsn']; show Instr.findNow _ _ l (i+1)=_; rw [q1,show i+1+j=i+(j+1) by omega],by rw [List.getElem?_cons_succ]; exact q2,q3⟩
  obtain ⟨j2,v,y,q1,q2,q3⟩:=hfn es.toList 0 hik ⟨e,hm,hx⟩
  have hf:=MapKept.run_findKey (P:=P) (w:=W) hkt q1
  rw [Nat.zero_add] at hf
  have hj2:j2<es.size:=by have:=(List.getElem?_eq_some_iff.1 q2).1; simpa using this
  have hE:(es.eraseIdxIfInBounds j2).toList=es.toList.filter (nk x):=by
    rw [Array.eraseIdxIfInBounds_eq,dif_pos hj2,Array.toList_eraseIdx]
    exact Qdi _ j2 y hnk hik q2 q3
  have hh:=MapKept.heap_set (o':=.map (es.eraseIdxIfInBounds j2) c) hg
  refine ⟨{ W with heap:=W.heap.setIfInBounds g (.map (es.eraseIdxIfInBounds j2) c) },?_,⟨rfl,rfl,rfl,by simp,fun i hi=>hh.2 i hi⟩,es.eraseIdxIfInBounds j2,?_,hh.1,(hh.2 r (fun q=>hgr q.symm)).trans hr⟩
  · simp [Builtin.delete_,run_underlying ht,MapKept.run_getObj_map hg,MapKept.run_checkKey hkt (show MapKept.IsKey (.int .i64) (.int .i64 x) by simp [MapKept.IsKey]),hf,MapKept.run_setObj_map _ hg,Result.andThen]
  · rw [hE,he,List.filter_filter]
    refine List.filter_congr fun f hfm=>?_
    unfold rkeep
    rw [Qew]
    by_cases hb:f.born=e.born
    · rw [QdI (·.born) _ hM.born f hfm e he0 hb,Qfn hx,Qjb hx,decide_eq_false (by omega)]
      simp
    · have hne:f.key≠e.key:=fun q=>hb (congrArg MapEntry.born (QdI (·.key) _ (Qeb hM) f hfm e he0 q))
      obtain ⟨a,ha⟩:=QeL hM hfm
      have hnx:nk x f=true:=by rw [Qfn ha]; simp only [bne_iff_ne,ne_eq]; exact fun q=>hne (by rw [ha,hx,q])
      rw [hnx,show (f.born==e.born)=false from by simpa using hb,Bool.or_false,Bool.true_and]
theorem QcW.next (hM : MpW es0 c m0) (h:QcW g r lim es0 c sn W) {P:Program} (ty:TypeId) :
    ((Instr.next (.pointer (some ⟨r,0,none⟩)) false ty).run P W=.ok (.tuple #[.bool false]) W∧MpAt g (m0.filter fun p=>decide (lim≤p.1)) W) ∨
    ∃ e x W1,e.key=.int .i64 x∧(Instr.next (.pointer (some ⟨r,0,none⟩)) false ty).run P W=.ok (.tuple #[.bool true,.int .i64 x,e.val]) W1∧Puts W r W1∧Qdm g r lim es0 c sn e W1∧(Instr.entry (.pointer (some ⟨r,0,none⟩))).run P W1=.ok (.tuple #[.int .i64 x,e.val]) W1:=by
  have h':=h
  obtain ⟨es,he,hg,hr⟩:=h
  have hgr:g≠r:=fun q=>by rw [q,hr] at hg; cases hg
  have hsub:∀ y∈es.toList,y∈es0.toList:=fun y hy=>by rw [he] at hy; exact (List.mem_filter.1 hy).1
  rcases run_next_at (P:=P) W ty r g c c sn es c hr hg (fun y hy=>hM.old y (hsub y hy)) (qR _) with ⟨h0,hrun⟩ | ⟨e,hm,w1,hw1,hrun⟩
  · left
    refine ⟨hrun,h'.done hM fun es2 hg2=>?_⟩
    rw [hg] at hg2
    injection hg2 with q
    injection q with q1 _
    rw [←q1]; exact h0
  · right
    unfold leftOf at hm
    rw [Array.mem_toList_iff,Array.mem_filter] at hm
    obtain ⟨hm1,hs⟩:=hm
    have hm2:e∈es.toList:=by rw [Array.mem_toList_iff]; exact hm1
    obtain ⟨x,hx⟩:=QeL hM (hsub e hm2)
    have hh:w1.heap=W.heap∧w1.os=W.os∧w1.tape=W.tape∧w1.output=W.output:=by
      rcases hw1 with rfl | rfl
      · exact ⟨rfl,rfl,rfl,rfl⟩
      · exact ⟨rfl,(Qaz W).os,(Qaz W).tape,(Qaz W).output⟩
    have hP:Puts W r (ChangeMaps.setBlock w1 r (.mapIter (some g) c (sn.push e.born) c)):=⟨hh.2.1,hh.2.2.1,hh.2.2.2,by simp [ChangeMaps.setBlock,hh.1],fun i hi=>by simp only [ChangeMaps.setBlock,hh.1]; exact Array.getElem?_setIfInBounds_ne (fun e=>hi e.symm)⟩
    have hr1:(ChangeMaps.setBlock w1 r (.mapIter (some g) c (sn.push e.born) c)).heap[r]? = some (.mapIter (some g) c (sn.push e.born) c):=by simp only [ChangeMaps.setBlock,hh.1]; exact Array.getElem?_setIfInBounds_self_of_lt (Qay hr)
    have hg1:=(hP.2.2.2.2 g hgr).trans hg
    refine ⟨e,x,_,hx,by rw [hrun,hx],hP,⟨es,he,hg1,hr1,hm2,by simpa using hs⟩,?_⟩
    rw [←hx]
    exact run_entry_at _ r g c sn es c e hr1 hg1 hm2 (by rw [he]; exact hM.born.sublist ((List.filter_sublist).map _))
end
end Go.Proofs.YtibegnjaphohaaaDoor.Auto
end
