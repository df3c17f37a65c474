/- Texts of this claim, joined (S1). -/
import Derived.Test.YtlcjklafldaemaaGreatDoorZS0
import Derived.Lib.AppendZeros
import Derived.Sort.LoopGhostIn

set_option linter.unusedVariables false
set_option linter.unusedSimpArgs false
set_option maxHeartbeats 4000000
open Go.IntKind renaming u32 → zaa, u64 → zab, i64 → zao, u8 → zaE
open Int renaming fdiv_eq_ediv_of_nonneg → zac, tmod → zaB, toNat_natCast → zbn
open List renaming length_map → zad, replicate → zae, take_succ_cons → zaf, take_zero → zag, drop_succ_cons → zah, drop_zero → zai, nil_append → zaj, cons_append → zak, drop_append_of_le_length → zap, take_append_of_le_length → zaq, length_drop → zar, length_append → zas, length_take → zat, mem_append → zau, mem_of_mem_take → zav, mem_of_mem_drop → zaw, take_of_length_le → zax, map_append → zaz, map_take → za0, map_drop → za1, append_assoc → za2, map_toArray → za6, map_cons → za7, map_nil → za8, drop_drop → zaC, drop_of_length_le → zaD, replicate_succ → zaF, set_cons_zero → zaG, set_append_right → zaH, mem_cons → zaI, not_mem_nil → zaJ, getElem_mem → zaK, take_add_one → zaL, getElem?_eq_getElem → zaM, flatten_append → zaN, take_append_drop → zaO, mem_map → zaQ, getD_eq_getElem?_getD → zaR, append_nil → zaS, drop_replicate → zaU, flatten_cons → zaV, flatten_nil → zaW, map → zaX, range → zaY, length_range → zaZ, range_succ → zba, length_cons → zbb, replicate_zero → zbc, getElem?_take → zbf, getElem?_drop → zbg, length_set → zbh, getElem?_map → zbi, getElem?_range → zbj, getElem?_eq_none → zbm, mem_cons_self → zbp, mem_cons_of_mem → zbq
open Nat renaming zero_le → zal, lt_of_lt_of_eq → zan, sub_self → zaA, ne_of_lt → zaP, eq_zero_or_pos → zaT, lt_or_ge → zbl
open Go.Value renaming int → zam, slice → za9, bool → zbd
open Array renaming ext' → zay
open Go.Sem renaming run_bind → za3, run_pure → za4
open Go.Result renaming andThen_ok → za5
open BitVec renaming ofInt → zbe, toNat_ofInt → zbo
open Option renaming map_some → zbk
namespace Go.Proofs.YtlcjklafldaemaaGreatDoor
open Rely.Ext renaming refl → zbr, trans → zbs
open Auto.Puts renaming row → zbt, ext → zbu
open Auto.Ext renaming tr → zbv
open Own.ExtB renaming ext → zbw, row → zbx
open Auto.RdK renaming ext → zby, here → zb3
open Auto.Qa0 renaming refl → zbz, row → zb0, step → zb1, puts → zb2
section
namespace Sha
open Go Go.RowKit
open Rely Auto Own
def QbI : List Int:=Qow.map Int.ofNat
def Qbf : List Int:=[0x6a09e667f3bcc908,0xbb67ae8584caa73b,0x3c6ef372fe94f82b,0xa54ff53a5f1d36f1,0x510e527fade682d1,0x9b05688c2b3e6c1f,0x1f83d9abfb41bd6b,0x5be0cd19137e2179]
theorem Qq1 (i : Nat) (h:i<64):zaa.wrap (nth QbI i/4294967296)=wv (wget KK i):=by
  have:∀ i:Fin 64,zaa.wrap (nth QbI i.1/4294967296)=wv (wget KK i.1):=by decide +kernel
  exact this ⟨i,h⟩
theorem QpV (n : Int):n.fdiv (2^min (32:Int).toNat zab.bits)=n/4294967296:=zac n (by decide)
def mixW (p q:List Wd) (i:Nat):List Wd:=(List.zipWith (· + ·) p q).take i++p.drop i
theorem mix_len (s r:S8) {i:Nat} (hi:i≤8):((mixW s.l r.l i).map wv).length=8:=by
  rcases (show i=0∨i=1∨i=2∨i=3∨i=4∨i=5∨i=6∨i=7∨i=8 by omega) with rfl | rfl | rfl | rfl | rfl | rfl | rfl | rfl | rfl <;> rfl
theorem Qpq (s r:S8) {i:Nat} (hi:i<8):nth ((mixW s.l r.l i).map wv) i=wv (wget s.l i):=by
  rcases (show i=0∨i=1∨i=2∨i=3∨i=4∨i=5∨i=6∨i=7 by omega) with rfl | rfl | rfl | rfl | rfl | rfl | rfl | rfl <;> rfl
theorem mix_set (s r:S8) {i:Nat} (hi:i<8):((mixW s.l r.l i).map wv).set i (wv (wget s.l i+wget r.l i))=(mixW s.l r.l (i+1)).map wv:=by
  rcases (show i=0∨i=1∨i=2∨i=3∨i=4∨i=5∨i=6∨i=7 by omega) with rfl | rfl | rfl | rfl | rfl | rfl | rfl | rfl <;> rfl
theorem QqQ (g : Nat) (s:S8) (b:List Int) (hbl:b.length=64) (hbb:Qaf b) (m:Int) (tc:TypeId) (w:World) (hc:w.heap[1]? = some (.cells (ints .u64 QbI) tc)) (hg:w.heap[g]? = some (.cells (cat [ints .u32 ([wv s.a,wv s.b,wv s.c,wv s.d,wv s.e,wv s.f,wv s.g,wv s.h]),ints .u8 (b),#[.int .i64 m]]) 114)) :
  Calls Tryz.prog 64 #[.pointer (some ⟨g,0,none⟩)] w (fun e W=>e=.returned (.tuple #[])∧ExtB g w W∧W.heap[g]? = some (.cells (cat [ints .u32 ((blk s b).l.map wv),ints .u8 b,#[.int .i64 m]]) 114)):=by
 have hl64:((w64 b).map wv).length=64:=by rw [zad,QeM]
 refine enter 137 [(0,.pointer (some ⟨g,0,none⟩))] Tryz.func64 rfl rfl kj rfl <| sgC fun K3 hK3=>sg 3 kj <| Qac (.agg (ints .u8 (b))) 23 rfl kj (Qan 112 _ g 8 114 _ _ _ hg rfl kj (Qaq [ints .u32 ([wv s.a,wv s.b,wv s.c,wv s.d,wv s.e,wv s.f,wv s.g,wv s.h])] [ints .u8 (b)] [#[.int .i64 m]] 8 kj) kj (isz (n:=64) kj (izT hbl))) <| Qas (.agg (ints .u32 ((w64 b).map wv))) 88 #[.agg (ints .u8 (b))] 24 rfl kj kj ((QoH b hbl hbb) _) fun W1 e1=>?_
 have x1:=zbw (ExtB.refl g w) e1
 refine Qak (ints .u32 (zae 64 0)) 143 2 rfl kj kj fun g4 W2 l4 e2 r4_2=>Qai g4 _ (ints .u32 ((w64 b).map wv)) 143 r4_2 rfl kj (Qag 143 _ _ g4 143 _ _ r4_2 rfl kj kj (isz (n:=64) kj (izT hl64)) (eqsz (n:=64) (izT (qZ (n:=64))) (izT hl64)) (ints_one _ _)) fun W3 p3 r4_3=>?_
 have x3:=ExtB.putsN (zbw x1 e2) p3 (qT x1.size l4)
 refine sgN hK3 <| sgC fun K5 hK5=>sg 3 kj ?_
 have r2_1:=(Qaa hg e1)
 have r2_3:=(rpn p3 r2_1 e2 l4)
 refine Qac (.agg (ints .u32 ([wv s.a,wv s.b,wv s.c,wv s.d,wv s.e,wv s.f,wv s.g,wv s.h]))) 28 rfl kj (Qan 111 _ g 0 114 _ _ _ r2_3 rfl kj (Qaq [] [ints .u32 ([wv s.a,wv s.b,wv s.c,wv s.d,wv s.e,wv s.f,wv s.g,wv s.h])] [ints .u8 (b),#[.int .i64 m]] 0 kj) kj (isz (n:=8) kj kj)) <| Qak (ints .u32 ([0,0,0,0,0,0,0,0])) 111 3 rfl kj kj fun g6 W4 l6 e4 r6_4=>Qai g6 _ (ints .u32 ([wv s.a,wv s.b,wv s.c,wv s.d,wv s.e,wv s.f,wv s.g,wv s.h])) 111 r6_4 rfl kj (Qag 111 _ _ g6 111 _ _ r6_4 rfl kj kj (isz (n:=8) kj kj) (eqsz (n:=8) kj kj) (ints_one _ _)) fun W5 p5 r6_5=>sgN hK5 <| wp_seq_k fun K7 hK7=>QaQ 23 [⟨none,[(3,none)]⟩,⟨none,[(29,some 0)]⟩,⟨none,[(3,none)]⟩,⟨none,[(31,some 2)]⟩,⟨none,[(3,none)]⟩,⟨none,[(33,some 4)]⟩,⟨none,[(3,none)]⟩,⟨none,[(35,some 6)]⟩,⟨none,[(3,none)]⟩,⟨none,[(37,some 8)]⟩,⟨none,[(3,none)]⟩,⟨none,[(39,some 10)]⟩,⟨none,[(3,none)]⟩,⟨none,[(41,some 12)]⟩,⟨none,[(3,none)]⟩,⟨none,[(43,some 14)]⟩,⟨none,[(30,some 1)]⟩,⟨none,[(32,some 3)]⟩,⟨none,[(34,some 5)]⟩,⟨none,[(36,some 7)]⟩,⟨none,[(38,some 9)]⟩,⟨none,[(40,some 11)]⟩,⟨none,[(42,some 13)]⟩] kj kj fun F hF=>Qal (.pointer (some ⟨g6,0,none⟩)) kj kj (fun _=>kj) <| Qax (.int .u32 (wv s.a)) kj kj (fun W hR=>(Qaj 110 _ g6 0 111 _ (.int .u32 (wv s.a)) _ (Qaa (Qaa r6_5 (Qah _)) hR) rfl kj kj kj)) <| Qal (.pointer (some ⟨g6,1,none⟩)) kj kj (fun _=>kj) <| Qax (.int .u32 (wv s.b)) kj kj (fun W hR=>(Qaj 110 _ g6 1 111 _ (.int .u32 (wv s.b)) _ (Qaa (Qaa r6_5 (Qah _)) hR) rfl kj kj kj)) ?_
 refine Qal (.pointer (some ⟨g6,2,none⟩)) kj kj (fun _=>kj) <| Qax (.int .u32 (wv s.c)) kj kj (fun W hR=>(Qaj 110 _ g6 2 111 _ (.int .u32 (wv s.c)) _ (Qaa (Qaa r6_5 (Qah _)) hR) rfl kj kj kj)) <| Qal (.pointer (some ⟨g6,3,none⟩)) kj kj (fun _=>kj) <| Qax (.int .u32 (wv s.d)) kj kj (fun W hR=>(Qaj 110 _ g6 3 111 _ (.int .u32 (wv s.d)) _ (Qaa (Qaa r6_5 (Qah _)) hR) rfl kj kj kj)) <| Qal (.pointer (some ⟨g6,4,none⟩)) kj kj (fun _=>kj) <| Qax (.int .u32 (wv s.e)) kj kj (fun W hR=>(Qaj 110 _ g6 4 111 _ (.int .u32 (wv s.e)) _ (Qaa (Qaa r6_5 (Qah _)) hR) rfl kj kj kj)) <| Qal (.pointer (some ⟨g6,5,none⟩)) kj kj (fun _=>kj) <| Qax (.int .u32 (wv s.f)) kj kj (fun W hR=>(Qaj 110 _ g6 5 111 _ (.int .u32 (wv s.f)) _ (Qaa (Qaa r6_5 (Qah _)) hR) rfl kj kj kj)) <| Qal (.pointer (some ⟨g6,6,none⟩)) kj kj (fun _=>kj) <| Qax (.int .u32 (wv s.g)) kj kj (fun W hR=>(Qaj 110 _ g6 6 111 _ (.int .u32 (wv s.g)) _ (Qaa (Qaa r6_5 (Qah _)) hR) rfl kj kj kj)) ?_
 refine Qal (.pointer (some ⟨g6,7,none⟩)) kj kj (fun _=>kj) <| Qax (.int .u32 (wv s.h)) kj kj (fun W hR=>(Qaj 110 _ g6 7 111 _ (.int .u32 (wv s.h)) _ (Qaa (Qaa r6_5 (Qah _)) hR) rfl kj kj kj)) <| Qal (.int .u32 (wv s.a)) kj kj (fun _=>kj) <| Qal (.int .u32 (wv s.b)) kj kj (fun _=>kj) <| Qal (.int .u32 (wv s.c)) kj kj (fun _=>kj) <| Qal (.int .u32 (wv s.d)) kj kj (fun _=>kj) <| Qal (.int .u32 (wv s.e)) kj kj (fun _=>kj) <| Qal (.int .u32 (wv s.f)) kj kj (fun _=>kj) <| Qal (.int .u32 (wv s.g)) kj kj (fun _=>kj) <| QaH (hF _ kj fun W6 e6=>?_)
 simp only [ups,up,Kn.val,zaf,zag,zah,zai,zaj,zak]
 clear hF
 refine sg 1 kj <| sgN hK7 <| wp_seq_k fun K8 hK8=>sgC fun K9 hK9=>Qac (.agg (ints .u32 ((w64 b).map wv))) 45 rfl kj (Qae 143 _ g4 143 _ _ (Qaa (rpn p5 r4_3 e4 l6) e6) rfl kj kj (isz (n:=64) kj (izT hl64))) <| sg 1 kj <| sgN hK9 <| wp_block <| QaT (fun (s1:Nat)=>[(0,.pointer (some ⟨g,0,none⟩)),(45,.agg (ints .u32 ((w64 b).map wv))),(46,.int .i64 ((s1:Nat):Int)),(4,.int .u32 (wv ((rnds KK (w64 b) s s1).a))),(5,.int .u32 (wv ((rnds KK (w64 b) s s1).b))),(6,.int .u32 (wv ((rnds KK (w64 b) s s1).c))),(7,.int .u32 (wv ((rnds KK (w64 b) s s1).d))),(8,.int .u32 (wv ((rnds KK (w64 b) s s1).e))),(9,.int .u32 (wv ((rnds KK (w64 b) s s1).f))),(10,.int .u32 (wv ((rnds KK (w64 b) s s1).g))),(11,.int .u32 (wv ((rnds KK (w64 b) s s1).h)))]) (fun (s1:Nat) W=>(s1≤64)∧(Ext W6 W)∧(ExtB g w W)) (fun (s1:Nat)=>64-s1) 0 ⟨kj,kj,kj,kj,kj,kj,kj,kj,kj,kj,kj,trivial⟩ ⟨(zal _),(zbr W6),(zbw (ExtB.putsN (zbw x3 e4) p5 (qT x3.size l6)) e6)⟩ fun s1 X1 V1 hI1=>?_
 obtain ⟨i,hs1⟩:∃ z,z=s1:=⟨_,rfl⟩
 subst hs1
 obtain ⟨hi,kk1,xx1⟩:=hI1
 replace hi:i≤64:=hi
 replace kk1:Ext W6 V1:=kk1
 replace xx1:ExtB g w V1:=xx1
 have e7:=kk1
 refine sgB kj <| wp_seq_k fun K11 hK11=>QaC (t:=decide (((i:Nat):Int)<64)) kj (fun c12=>?_) (fun c12=>?_)
 ·skip
  have hlt47:i<64:=by have:=of_decide_eq_true c12; omega
  refine wp_skip <| hK11 _ _ <| wp_seq_k fun K13 hK13=>wp_block <| sgC fun K14 hK14=>sg 1 kj <| Qac (.int .u32 (wv (wget (w64 b) i))) 49 rfl kj (QaB 143 _ _ .i64 .u32 ((w64 b).map wv) i 64 110 (wv (wget (w64 b) i)) rfl kj kj kj kj kj hl64 (by omega) (Qc6 _ _)) <| sg 2 kj <| sgN hK14 <| sgC fun K15 hK15=>?_
  refine sg 1 kj <| Qas (.int .u32 (wv (rr ((rnds KK (w64 b) s i).e) 6))) 89 #[.int .u32 (wv ((rnds KK (w64 b) s i).e)),.int .i64 (-6)] 51 rfl kj kj ((rotC ((rnds KK (w64 b) s i).e) 6 (-6) (by decide) (by decide) (by decide)) _) fun W8 e8=>sg 1 kj <| Qas (.int .u32 (wv (rr ((rnds KK (w64 b) s i).e) 11))) 89 #[.int .u32 (wv ((rnds KK (w64 b) s i).e)),.int .i64 (-11)] 53 rfl kj kj ((rotC ((rnds KK (w64 b) s i).e) 11 (-11) (by decide) (by decide) (by decide)) _) fun W9 e9=>?_
  have x9:=zbw (zbw xx1 e8) e9
  refine Qac (.int .u32 (wv (((rr ((rnds KK (w64 b) s i).e) 6))^^^((rr ((rnds KK (w64 b) s i).e) 11))))) 54 rfl kj (Qam kj (congrArg (zam .u32) (w_xor _ _))) <| sg 1 kj <| Qas (.int .u32 (wv (rr ((rnds KK (w64 b) s i).e) 25))) 89 #[.int .u32 (wv ((rnds KK (w64 b) s i).e)),.int .i64 (-25)] 56 rfl kj kj ((rotC ((rnds KK (w64 b) s i).e) 25 (-25) (by decide) (by decide) (by decide)) _) fun W10 e10=>?_
  have x10:=zbw x9 e10
  refine Qac (.int .u32 (wv (((((rr ((rnds KK (w64 b) s i).e) 6))^^^((rr ((rnds KK (w64 b) s i).e) 11))))^^^((rr ((rnds KK (w64 b) s i).e) 25))))) 57 rfl kj (Qam kj (congrArg (zam .u32) (w_xor _ _))) <| sg 1 kj <| sgN hK15 <| sgC fun K16 hK16=>sg 1 kj <| Qas (.int .u32 (wv (rr ((rnds KK (w64 b) s i).a) 2))) 89 #[.int .u32 (wv ((rnds KK (w64 b) s i).a)),.int .i64 (-2)] 59 rfl kj kj ((rotC ((rnds KK (w64 b) s i).a) 2 (-2) (by decide) (by decide) (by decide)) _) fun W11 e11=>sg 1 kj <| Qas (.int .u32 (wv (rr ((rnds KK (w64 b) s i).a) 13))) 89 #[.int .u32 (wv ((rnds KK (w64 b) s i).a)),.int .i64 (-13)] 61 rfl kj kj ((rotC ((rnds KK (w64 b) s i).a) 13 (-13) (by decide) (by decide) (by decide)) _) fun W12 e12=>Qac (.int .u32 (wv (((rr ((rnds KK (w64 b) s i).a) 2))^^^((rr ((rnds KK (w64 b) s i).a) 13))))) 62 rfl kj (Qam kj (congrArg (zam .u32) (w_xor _ _))) <| sg 1 kj ?_
  refine Qas (.int .u32 (wv (rr ((rnds KK (w64 b) s i).a) 22))) 89 #[.int .u32 (wv ((rnds KK (w64 b) s i).a)),.int .i64 (-22)] 64 rfl kj kj ((rotC ((rnds KK (w64 b) s i).a) 22 (-22) (by decide) (by decide) (by decide)) _) fun W13 e13=>Qac (.int .u32 (wv (((((rr ((rnds KK (w64 b) s i).a) 2))^^^((rr ((rnds KK (w64 b) s i).a) 13))))^^^((rr ((rnds KK (w64 b) s i).a) 22))))) 65 rfl kj (Qam kj (congrArg (zam .u32) (w_xor _ _))) <| sg 1 kj <| sgN hK16 <| sgC fun K17 hK17=>sg 2 kj <| Qac (.int .u32 (wv ((((rnds KK (w64 b) s i).h))+((((((rr ((rnds KK (w64 b) s i).e) 6))^^^((rr ((rnds KK (w64 b) s i).e) 11))))^^^((rr ((rnds KK (w64 b) s i).e) 25))))))) 68 rfl kj (Qam kj (congrArg (zam .u32) (QeI _ _))) <| sg 2 kj <| Qac (.int .u32 (wv ((((rnds KK (w64 b) s i).e))&&&(((rnds KK (w64 b) s i).f))))) 71 rfl kj (Qam kj (congrArg (zam .u32) (Qlm _ _))) <| sg 1 kj ?_
  refine Qac (.int .u32 (wv (~~~(((rnds KK (w64 b) s i).e))))) 73 rfl kj (Qam kj (congrArg (zam .u32) (QqM _))) <| sg 1 kj <| Qac (.int .u32 (wv (((~~~(((rnds KK (w64 b) s i).e))))&&&(((rnds KK (w64 b) s i).g))))) 75 rfl kj (Qam kj (congrArg (zam .u32) (Qlm _ _))) <| Qac (.int .u32 (wv ((((((rnds KK (w64 b) s i).e))&&&(((rnds KK (w64 b) s i).f))))^^^((((~~~(((rnds KK (w64 b) s i).e))))&&&(((rnds KK (w64 b) s i).g))))))) 76 rfl kj (Qam kj (congrArg (zam .u32) (w_xor _ _))) <| Qac (.int .u32 (wv ((((((rnds KK (w64 b) s i).h))+((((((rr ((rnds KK (w64 b) s i).e) 6))^^^((rr ((rnds KK (w64 b) s i).e) 11))))^^^((rr ((rnds KK (w64 b) s i).e) 25))))))+(((((((rnds KK (w64 b) s i).e))&&&(((rnds KK (w64 b) s i).f))))^^^((((~~~(((rnds KK (w64 b) s i).e))))&&&(((rnds KK (w64 b) s i).g))))))))) 77 rfl kj (Qam kj (congrArg (zam .u32) (QeI _ _))) <| sg 1 kj <| Qac (.pointer (some ⟨1,i,none⟩)) 79 rfl kj (Qa8 _ _ _ .i64 (i) _ 80 115 rfl kj kj kj kj (by omega)) ?_
  have r1_1:=(Qaa hc e1)
  have r1_3:=(rpn p3 r1_1 e2 l4)
  refine Qac (.int .u64 (nth (QbI) i)) 80 rfl kj (Qaj 115 _ 1 i tc _ (.int .u64 (nth (QbI) i)) _ (Qaa (Qaa (Qaa (Qaa (Qaa (Qaa (Qaa (Qaa (rpn p5 r1_3 e4 l6) e6) e7) e8) e9) e10) e11) e12) e13) rfl kj (Qay _ _ _ (zan (by omega) (show QbI.length=80 from rfl).symm)) kj) <| Qac (.int .u64 (nth QbI i/4294967296)) 81 rfl kj (Qbu .shr _ _ _ _ .u64 .u64 _ _ _ rfl kj kj (QdS _ _ _ _ _ _ (by decide) (QpV _))) <| Qac (.int .u32 (wv (wget KK i))) 82 rfl kj (Qam (u:=.int .u32 (zaa.wrap (nth QbI i/4294967296))) kj (congrArg (zam .u32) (Qq1 i hlt47))) <| Qac (.int .u32 (wv ((((((((rnds KK (w64 b) s i).h))+((((((rr ((rnds KK (w64 b) s i).e) 6))^^^((rr ((rnds KK (w64 b) s i).e) 11))))^^^((rr ((rnds KK (w64 b) s i).e) 25))))))+(((((((rnds KK (w64 b) s i).e))&&&(((rnds KK (w64 b) s i).f))))^^^((((~~~(((rnds KK (w64 b) s i).e))))&&&(((rnds KK (w64 b) s i).g))))))))+((wget KK i))))) 83 rfl kj (Qam kj (congrArg (zam .u32) (QeI _ _))) <| sg 1 kj <| Qac (.int .u32 (wv ((((((((((rnds KK (w64 b) s i).h))+((((((rr ((rnds KK (w64 b) s i).e) 6))^^^((rr ((rnds KK (w64 b) s i).e) 11))))^^^((rr ((rnds KK (w64 b) s i).e) 25))))))+(((((((rnds KK (w64 b) s i).e))&&&(((rnds KK (w64 b) s i).f))))^^^((((~~~(((rnds KK (w64 b) s i).e))))&&&(((rnds KK (w64 b) s i).g))))))))+((wget KK i))))+((wget (w64 b) i))))) 85 rfl kj (Qam kj (congrArg (zam .u32) (QeI _ _))) <| sg 1 kj <| sgN hK17 <| sgC fun K18 hK18=>sg 3 kj ?_
  refine Qac (.int .u32 (wv ((((rnds KK (w64 b) s i).a))&&&(((rnds KK (w64 b) s i).b))))) 89 rfl kj (Qam kj (congrArg (zam .u32) (Qlm _ _))) <| sg 2 kj <| Qac (.int .u32 (wv ((((rnds KK (w64 b) s i).a))&&&(((rnds KK (w64 b) s i).c))))) 92 rfl kj (Qam kj (congrArg (zam .u32) (Qlm _ _))) <| Qac (.int .u32 (wv ((((((rnds KK (w64 b) s i).a))&&&(((rnds KK (w64 b) s i).b))))^^^(((((rnds KK (w64 b) s i).a))&&&(((rnds KK (w64 b) s i).c))))))) 93 rfl kj (Qam kj (congrArg (zam .u32) (w_xor _ _))) <| sg 2 kj <| Qac (.int .u32 (wv ((((rnds KK (w64 b) s i).b))&&&(((rnds KK (w64 b) s i).c))))) 96 rfl kj (Qam kj (congrArg (zam .u32) (Qlm _ _))) <| Qac (.int .u32 (wv ((((((((rnds KK (w64 b) s i).a))&&&(((rnds KK (w64 b) s i).b))))^^^(((((rnds KK (w64 b) s i).a))&&&(((rnds KK (w64 b) s i).c))))))^^^(((((rnds KK (w64 b) s i).b))&&&(((rnds KK (w64 b) s i).c))))))) 97 rfl kj (Qam kj (congrArg (zam .u32) (w_xor _ _))) <| Qac (.int .u32 (wv (((((((rr ((rnds KK (w64 b) s i).a) 2))^^^((rr ((rnds KK (w64 b) s i).a) 13))))^^^((rr ((rnds KK (w64 b) s i).a) 22))))+(((((((((rnds KK (w64 b) s i).a))&&&(((rnds KK (w64 b) s i).b))))^^^(((((rnds KK (w64 b) s i).a))&&&(((rnds KK (w64 b) s i).c))))))^^^(((((rnds KK (w64 b) s i).b))&&&(((rnds KK (w64 b) s i).c))))))))) 98 rfl kj (Qam kj (congrArg (zam .u32) (QeI _ _))) <| sg 1 kj <| sgN hK18 ?_
  refine Qao <| sg 5 kj <| Qac (.int .u32 (wv ((((rnds KK (w64 b) s i).d))+(((((((((((rnds KK (w64 b) s i).h))+((((((rr ((rnds KK (w64 b) s i).e) 6))^^^((rr ((rnds KK (w64 b) s i).e) 11))))^^^((rr ((rnds KK (w64 b) s i).e) 25))))))+(((((((rnds KK (w64 b) s i).e))&&&(((rnds KK (w64 b) s i).f))))^^^((((~~~(((rnds KK (w64 b) s i).e))))&&&(((rnds KK (w64 b) s i).g))))))))+((wget KK i))))+((wget (w64 b) i))))))) 104 rfl kj (Qam kj (congrArg (zam .u32) (QeI _ _))) <| sg 5 kj <| Qac (.int .u32 (wv ((((((((((((rnds KK (w64 b) s i).h))+((((((rr ((rnds KK (w64 b) s i).e) 6))^^^((rr ((rnds KK (w64 b) s i).e) 11))))^^^((rr ((rnds KK (w64 b) s i).e) 25))))))+(((((((rnds KK (w64 b) s i).e))&&&(((rnds KK (w64 b) s i).f))))^^^((((~~~(((rnds KK (w64 b) s i).e))))&&&(((rnds KK (w64 b) s i).g))))))))+((wget KK i))))+((wget (w64 b) i))))+((((((((rr ((rnds KK (w64 b) s i).a) 2))^^^((rr ((rnds KK (w64 b) s i).a) 13))))^^^((rr ((rnds KK (w64 b) s i).a) 22))))+(((((((((rnds KK (w64 b) s i).a))&&&(((rnds KK (w64 b) s i).b))))^^^(((((rnds KK (w64 b) s i).a))&&&(((rnds KK (w64 b) s i).c))))))^^^(((((rnds KK (w64 b) s i).b))&&&(((rnds KK (w64 b) s i).c))))))))))) 110 rfl kj (Qam kj (congrArg (zam .u32) (QeI _ _))) <| sg 8 kj <| Qaz <| hK13 _ _ <| Qao <| Qac (.int .i64 ((i+1:Nat):Int)) 111 rfl kj (Qam (u:=.int .i64 (zao.wrap (((i:Nat):Int)+1))) kj (congrArg (zam .i64) (i64n _ _ (by omega) (by omega)))) ?_
  refine sg 1 kj <| Qaz ?_
  repeat (first | with_reducible refine goX1 ?_ | with_reducible refine goX2 ?_ | with_reducible refine goX3 ?_)
  exact QaL (i+1) ⟨kj,kj,kj,kj,kj,kj,kj,kj,kj,kj,kj,trivial⟩ ⟨(by omega),(zbs (zbs (zbs (zbs (zbs (zbs e7 e8) e9) e10) e11) e12) e13),(zbw (zbw (zbw x10 e11) e12) e13)⟩ (by omega)
 ·skip
  have heq47:i=64:=by have:=of_decide_eq_false c12; omega
  refine wp_exit <| hK8 _ _ <| sgB kj <| wp_block ?_
  obtain ⟨r,hr9⟩:∃ z,z=rnds KK (w64 b) s i:=⟨_,rfl⟩
  have rg_:V1.heap[g]? = some (.cells (cat [ints .u32 (s.l.map wv),ints .u8 (b),#[.int .i64 m]]) 114):=(Qaa (Qaa (rpn p5 r2_3 e4 l6) e6) e7)
  refine QaT (fun (s2:Nat)=>[(0,.pointer (some ⟨g,0,none⟩)),(120,.agg (ints .u32 ([wv (rnds KK (w64 b) s i).a,wv (rnds KK (w64 b) s i).b,wv (rnds KK (w64 b) s i).c,wv (rnds KK (w64 b) s i).d,wv (rnds KK (w64 b) s i).e,wv (rnds KK (w64 b) s i).f,wv (rnds KK (w64 b) s i).g,wv (rnds KK (w64 b) s i).h]))),(121,.int .i64 ((s2:Nat):Int))]) (fun (s2:Nat) W=>(s2≤8)∧(W.heap[g]? = some (.cells (cat [ints .u32 ((mixW s.l r.l s2).map wv),ints .u8 (b),#[.int .i64 m]]) 114))∧(Qa0 [g] V1 W)∧(ExtB g w W)) (fun (s2:Nat)=>8-s2) 0 ⟨kj,kj,kj,trivial⟩ ⟨(zal _),rg_,(zbz [g] V1),xx1⟩ fun s2 X2 V2 hI2=>?_
  obtain ⟨p,hs2⟩:∃ z,z=s2:=⟨_,rfl⟩
  subst hs2
  obtain ⟨hp,q2_2,kk2,xx2⟩:=hI2
  replace hp:p≤8:=hp
  replace q2_2:V2.heap[g]? = some (.cells (cat [ints .u32 ((mixW s.l r.l p).map wv),ints .u8 (b),#[.int .i64 m]]) 114):=q2_2
  replace kk2:Qa0 [g] V1 V2:=kk2
  replace xx2:ExtB g w V2:=xx2
  have q8:=kk2
  refine sgB kj <| wp_seq_k fun K21 hK21=>QaC (t:=decide (((p:Nat):Int)<8)) kj (fun c22=>?_) (fun c22=>?_)
  ·skip
   have hlt122:p<8:=by have:=of_decide_eq_true c22; omega
   refine wp_skip <| hK21 _ _ <| wp_seq_k fun K23 hK23=>wp_block <| sgC fun K24 hK24=>sg 1 kj <| Qac (.int .u32 (wv (wget r.l p))) 124 rfl kj (QaB 111 _ _ .i64 .u32 ([wv (rnds KK (w64 b) s i).a,wv (rnds KK (w64 b) s i).b,wv (rnds KK (w64 b) s i).c,wv (rnds KK (w64 b) s i).d,wv (rnds KK (w64 b) s i).e,wv (rnds KK (w64 b) s i).f,wv (rnds KK (w64 b) s i).g,wv (rnds KK (w64 b) s i).h]) p 8 110 (wv (wget r.l p)) rfl kj kj kj kj kj rfl (by omega) (by rw [hr9]; exact Qc6 (rnds KK (w64 b) s i).l p)) ?_
   refine sg 2 kj <| sgN hK24 <| QaQ 11 [⟨none,[(0,none)]⟩,⟨none,[(18,none)]⟩,⟨none,[(125,some 0)]⟩,⟨none,[(127,some 2)]⟩,⟨none,[(128,some 3),(126,some 1)]⟩,⟨none,[(129,some 4)]⟩,⟨none,[(19,none)]⟩,⟨none,[(130,some 5),(131,some 6)]⟩,⟨none,[(125,some 0)]⟩,⟨none,[(133,some 8)]⟩,⟨none,[(134,some 9),(126,some 1)]⟩] kj kj fun F hF=>Qal (.pointer (some ⟨g,0,none⟩)) kj kj (fun _=>kj) <| Qal (.int .i64 ((p:Nat):Int)) kj kj (fun _=>kj) <| Qal (.pointer (some ⟨g,0,none⟩)) kj kj (fun _=>kj) <| Qal (.pointer (some ⟨g,0,none⟩)) kj kj (fun _=>kj) <| Qal (.pointer (some ⟨g,0+p*1,none⟩)) kj kj (fun W=>(QcI 111 _ _ .i64 p g 0 8 110 1 rfl kj kj kj kj (show p<8 by omega))) <| Qax (.int .u32 (wv (wget s.l p))) kj kj (fun W hR=>(Qaj 110 _ g (0+p*1) 114 _ (.int .u32 (wv (wget s.l p))) _ (Qaa (Qaa q2_2 (Qah _)) hR) rfl kj ((QdF [] [ints .u8 (b),#[.int .i64 m]] ((mixW s.l r.l p).map wv) 0 p (0+p*1) kj (by omega) (zan (show p<8 by omega) (mix_len s r hp).symm)).trans (congrArg (fun z=>some (zam .u32 z)) (Qpq s r hlt122))) kj)) <| Qal (.int .u32 (wv (wget r.l p))) kj kj (fun _=>kj) ?_
   refine Qal (.int .u32 (wv (((wget s.l p))+((wget r.l p))))) kj kj (fun W=>(Qam kj (congrArg (zam .u32) (QeI _ _)))) <| Qal (.pointer (some ⟨g,0,none⟩)) kj kj (fun _=>kj) <| Qal (.pointer (some ⟨g,0,none⟩)) kj kj (fun _=>kj) <| Qal (.pointer (some ⟨g,0+p*1,none⟩)) kj kj (fun W=>(QcI 111 _ _ .i64 p g 0 8 110 1 rfl kj kj kj kj (show p<8 by omega))) <| QaH (hF _ kj fun W9 e9=>?_)
   simp only [ups,up,Kn.val,zaf,zag,zah,zai,zaj,zak]
   clear hF
   have x9:=zbw xx2 e9
   have r2_9:=(Qaa q2_2 e9)
   refine Qai g _ (cat [ints .u32 (((mixW s.l r.l p).map wv).set p (wv (((wget s.l p))+((wget r.l p))))),ints .u8 (b),#[.int .i64 m]]) 114 r2_9 rfl kj (Qfs 110 _ _ g (0+p*1) 114 [] [ints .u8 (b),#[.int .i64 m]] ((mixW s.l r.l p).map wv) 0 p _ r2_9 rfl kj kj kj kj (by omega) (zan (show p<8 by omega) (mix_len s r hp).symm)) fun W10 p10 r2_10=>?_
   have x10:=ExtB.puts x9 p10
   refine Qaz <| hK23 _ _ <| Qao <| Qac (.int .i64 ((p+1:Nat):Int)) 136 rfl kj (Qam (u:=.int .i64 (zao.wrap (((p:Nat):Int)+1))) kj (congrArg (zam .i64) (i64n _ _ (by omega) (by omega)))) <| sg 1 kj <| Qaz ?_
   have rh_:W10.heap[g]? = some (.cells (cat [ints .u32 ((mixW s.l r.l (p+1)).map wv),ints .u8 (b),#[.int .i64 m]]) 114):=by have h9:=r2_10; rw [mix_set s r hlt122] at h9; exact h9
   repeat (first | with_reducible refine goX1 ?_ | with_reducible refine goX2 ?_ | with_reducible refine goX3 ?_)
   exact QaL (p+1) ⟨kj,kj,kj,trivial⟩ ⟨(by omega),rh_,(zb2 (zb1 q8 e9) p10 (.inl (by simp))),x10⟩ (by show 8-(p+1)<8-p; omega)
  ·skip
   have heq122:p=8:=by have:=of_decide_eq_false c22; omega
   refine wp_exit ?_
   repeat (first | with_reducible refine goX1 ?_ | with_reducible refine goX2 ?_ | with_reducible refine goX3 ?_)
   exact (show bodyPost _ _ _ .normal _ _ from end0 rfl ⟨rfl,xx2,by have h9:=q2_2; rw [heq122,hr9,heq47] at h9; exact h9⟩)
end Sha
end
section
namespace Sha
open Go Go.RowKit
open Rely Auto Own
theorem QeV (s : S8) (t u:List Int):∀ n:Nat,64*n≤t.length→absorb s (t++u) n=absorb s t n
  | 0,_=>rfl
  | n+1,h=>by
    show blk (absorb s (t++u) n) _=blk (absorb s t n) _
    rw [QeV s t u n (by omega)]
    congr 1
    rw [zap (by omega),zaq (by rw [zar]; omega)]
def HasD (g : Nat) (t:List Int) (W:World):Prop:=∃ b:List Int,b.length=64∧Qaf b∧b.take (t.length%64)=t.drop (64*(t.length/64))∧t.length≤1000000000 ∧
  W.heap[g]? = some (.cells (cat [ints .u32 ((absorb S0 t (t.length/64)).l.map wv),ints .u8 b,#[.int .i64 ((t.length:Nat):Int)]]) 114)
def into (b z:List Int) (q n:Nat):List Int:=b.take q++z.take n++b.drop (q+n)
theorem into_len {b z:List Int} {q n:Nat} (hb:b.length=64) (hz:n≤z.length) (hq:q+n≤64):(into b z q n).length=64:=by
  simp only [into,zas,zat,zar]; omega
theorem Qf4 {b z:List Int} {q n:Nat} (hb:Qaf b) (hz:Qaf z):Qaf (into b z q n):=fun x hx=>by
  rcases zau.1 hx with hx | hx
  · rcases zau.1 hx with hx | hx
    · exact hb x (zav hx)
    · exact hz x (zav hx)
  · exact hb x (zaw hx)
theorem into_take {b z t:List Int} {n:Nat} (hb:b.length=64) (hz:n≤z.length) (hp:b.take (t.length%64)=t.drop (64*(t.length/64))):(into b z (t.length%64) n).take (t.length%64+n)=(t++z.take n).drop (64*(t.length/64)):=by
  have e1:(b.take (t.length%64)++z.take n).length=t.length%64+n:=by
    rw [zas,zat,zat]; omega
  unfold into
  rw [←e1,List.take_left,hp,zap (by omega)]
theorem Qmk {b z t:List Int} {n:Nat} (hb:b.length=64) (hz:n≤z.length) (hp:b.take (t.length%64)=t.drop (64*(t.length/64))) (hn:t.length%64+n<64) :
    (into b z (t.length%64) n).take ((t++z.take n).length%64)=(t++z.take n).drop (64*((t++z.take n).length/64)):=by
  have hl:(t++z.take n).length=t.length+n:=by rw [zas,zat]; omega
  rw [hl,show (t.length+n)%64=t.length%64+n by omega,show (t.length+n)/64=t.length/64 by omega]
  exact into_take hb hz hp
theorem Qmj {b z t:List Int} {n:Nat} (hb:b.length=64) (hz:n≤z.length) (hp:b.take (t.length%64)=t.drop (64*(t.length/64))) (hn:t.length%64+n=64) :
    blk (absorb S0 t (t.length/64)) (into b z (t.length%64) n)=absorb S0 (t++z.take n) ((t++z.take n).length/64):=by
  have hl:(t++z.take n).length=t.length+n:=by rw [zas,zat]; omega
  rw [hl,show (t.length+n)/64=t.length/64+1 by omega]
  show _=blk (absorb S0 (t++z.take n) (t.length/64)) _
  rw [QeV S0 t _ _ (by omega)]
  have h1:=into_take hb hz hp
  rw [hn,zax (by rw [into_len hb hz (by omega)]; omega)] at h1
  rw [h1,zax (l:=(t++z.take n).drop (64*(t.length/64))) (by rw [zar,hl]; omega)]
theorem Qk7 {z t:List Int} {n:Nat} (hz:n≤z.length) (hn:t.length%64+n<64):absorb S0 (t++z.take n) ((t++z.take n).length/64)=absorb S0 t (t.length/64):=by
  have hl:(t++z.take n).length=t.length+n:=by rw [zas,zat]; omega
  rw [hl,show (t.length+n)/64=t.length/64 by omega,QeV S0 t _ _ (by omega)]
section
variable {ds : List Deferred} {ops : Array Oper} {Q : Exit → Act → World → Prop} {rest : List Oper} {o : Oper} {N : Nat} {L : Env} {W : World}
theorem cat3 (a b c:Array Value):(cat [a,b,c]).toList=a.toList++(b.toList++c.toList):=by
  show (a++(b++c)).toList=_
  simp
theorem QnV {st b z:List Int} {u:Value} {q n:Nat} (hst:st.length=8) (hb:b.length=64) (hz:n≤z.length) (hq:q+n≤64) :
    ((cat [ints .u32 st,ints .u8 b,#[u]]).toList.take (8+q)++(z.take n).map (zam .u8)++(cat [ints .u32 st,ints .u8 b,#[u]]).toList.drop (8+q+n)).toArray=cat [ints .u32 st,ints .u8 (into b z q n),#[u]]:=by
  apply zay
  rw [cat3,cat3]
  have e1:(ints .u32 st).toList=st.map (zam .u32):=rfl
  have e2:∀ b,(ints .u8 b).toList=b.map (zam .u8):=fun _=>rfl
  rw [e1,e2,e2]
  have l1:(st.map (zam .u32)).length=8:=by simpa using hst
  have l2:(b.map (zam .u8)).length=64:=by simpa using hb
  show (st.map (zam .u32)++(b.map (zam .u8)++[u])).take (8+q)++(z.take n).map (zam .u8)++(st.map (zam .u32)++(b.map (zam .u8)++[u])).drop (8+q+n)=_
  rw [show 8+q+n=8+(q+n) by omega]
  rw [←l1,List.take_length_add_append,List.drop_length_add_append,zaq (by omega)]
  rw [zap (by omega)]
  unfold into
  simp only [zaz,za0,za1,za2]
theorem Qly (x y:Operand) (tx ty:TypeId) (d:Nat) (ho:o.op=.call { callee:=.builtin .copy,args:=#[x,y],argTypes:=#[tx,ty] }) (hu:Tryz.prog.underlying tx=some (.slice 5)) (hd:o.dst=some d) (hgd:Qcd ops o N L=some true)
    {g q n B:Nat} {st b z:List Int} {u v:Value} {T:TypeId} (hst:st.length=8) (hb:b.length=64) (hx:Rely.look (envN N L) x=.slice (some ⟨g,8+q,none⟩) (64-q) (64-q)) (hy:Rely.look (envN N L) y=v) (hr:RdK .u8 B z v W)
    (hg:W.heap[g]? = some (.cells (cat [ints .u32 st,ints .u8 b,#[u]]) T)) (hq:q<64) (hn:n=min z.length (64-q)) (h0:0<z.length)
    (k:∀ W':World,Puts W g W'→W'.heap[g]? = some (.cells (cat [ints .u32 st,ints .u8 (into b z q n),#[u]]) T)→WL Tryz.prog ops Q rest (Qau ds N ((d,.int .i64 ((n:Nat):Int))::L)) W'):WL Tryz.prog ops Q (o::rest) (Qau ds N L) W:=by
  obtain ⟨a,cap,rfl,y2,y3,y4,y5⟩:=hr
  obtain ⟨gz,oz,rfl,z2,z3,z4⟩:=y5.resolve_left (fun e=>by rw [e] at h0; simp at h0)
  have hlen:((z.take n).map (zam .u8)).length=n:=by simp; omega
  have hsz:(cat [ints .u32 st,ints .u8 b,#[u]]).size=73:=by
    rw [←Array.length_toList,cat3]; simp [ints]; omega
  have h:=run_copy_row (P:=Tryz.prog) W tx ty o.type 5 g (8+q) (64-q) (64-q) ⟨gz,oz,none⟩ z.length cap (cat [ints .u32 st,ints .u8 b,#[u]]) T ((z.take n).map (zam .u8)) hu kj hg (by rw [hlen]; exact hn)
    (Qir (k:=.u8) (ys:=z.take n) fun i hi=>by
      rw [zat] at hi
      rw [z4 i (by omega)]
      simp [nth,show i<n by omega]) (by rw [hlen,hsz]; omega) (QkG .u8 _)
  rw [hlen,QnV hst hb (by omega) (by omega)] at h
  refine Qcs (.int .i64 ((n:Nat):Int)) _ d hd hgd ?_ (k _ (QbO _ _ _) (setRow_heap _ _ _ _ _ _ hg))
  unfold execOp
  simp only [ho,resolve,invoke,builtin,za3,za4,za5,za6,za7,za8,hx,hy,h,goInt]
theorem Qk9 {P : Program} {ρ:Operand→Value} {k:IntKind} {B:Nat} {ys:List Int} {v:Value} (t:TypeId) (x z:Operand) (l n:Nat) (e:TypeId) (ho:o.op=.slice t x (some z) none none) (hx:ρ x=v) (hv:RdK k B ys v W)
    (hu:P.underlying t=some (.slice e)) (hs:(P.info? e).map (·.size)=some 1) (kz:IntKind) (hz:ρ z=.int kz (l:Int)) (h1:l≤ys.length) (hn:ys.length-l=n) :
    ∃ a c,(execOp ρ o).run P W=.ok (.value (.slice a n c)) W∧RdK k B (ys.drop l) (.slice a n c) W∧(za9 a n c).ownBlock=v.ownBlock:=by
  obtain ⟨u,h2,h3,h5⟩:=Qhm t x z l e ho hx hv hu hs kz hz h1
  obtain ⟨a,c,rfl,h4⟩:=id h3
  rw [zar,hn] at h2 h3 h5
  exact ⟨a,c,h2,h3,h5⟩
end
section
variable {ds : List Deferred} {ops : Array Oper} {Q : Exit → Act → World → Prop} {rest : List Oper} {o : Oper} {N : Nat} {L : Env} {W : World}
theorem Qhl {P : Program} {k:IntKind} {B:Nat} {ys:List Int} {v:Value} (t:TypeId) (x z:Operand) (l n:Nat) (e:TypeId) (d:Nat) (ho:o.op=.slice t x (some z) none none) (hd:o.dst=some d) (hg:Qcd ops o N L=some true) (hx:Rely.look (envN N L) x=v) (hv:RdK k B ys v W)
    (hu:P.underlying t=some (.slice e)) (hs:(P.info? e).map (·.size)=some 1) (kz:IntKind) (hz:Rely.look (envN N L) z=.int kz (l:Int)) (h1:l≤ys.length) (hn:ys.length-l=n)
    (kk:∀ a c,RdK k B (ys.drop l) (.slice a n c) W→(za9 a n c).ownBlock=v.ownBlock→WL P ops Q rest (Qau ds N ((d,.slice a n c)::L)) W):WL P ops Q (o::rest) (Qau ds N L) W:=by
  obtain ⟨a,c,h2,h3,h4⟩:=Qk9 (ρ:=Rely.look (envN N L)) t x z l n e ho hx hv hu hs kz hz h1 hn
  exact Qcs _ _ d hd hg h2 (kk a c h3 h4)
end
theorem run_storeQ {P : Program} {ρ:Operand→Value} {o:Oper} {w:World} (ty:TypeId) (x y:Operand) (g off:Nat) (t:TypeId) (pre post:List (Array Value)) (u v:Value) (hg:w.heap[g]? = some (.cells (cat (pre++([#[u]]++post))) t))
    (ho:o.op=.store ty x y) (hx:ρ x=.pointer (some ⟨g,off,none⟩)) (hy:ρ y=v) (hi:(P.info? ty).map (·.size)=some 1) (hp:(cat pre).size=off) (h1:v.oneCell'=true) (hcs:v.cells=#[v]) :
    (execOp ρ o).run P w=.ok .skip (w.setRow g (cat (pre++([#[v]]++post)))):=by
  subst hp
  have hs:Nat.blt (cat pre).size (cat (pre++([#[u]]++post))).size=true:=by
    have:(cat pre).size<(cat (pre++([#[u]]++post))).size:=by
      rw [Qa5,Qa5,qS,qS]
      have e1:(cat [#[u]]).size=1:=rfl
      omega
    simpa using this
  have e:(cat (pre++([#[u]]++post))).setIfInBounds (cat pre).size v=cat (pre++([#[v]]++post)):=by
    rw [Qa5,Qa5,Qa5,Qa5]
    have e1:∀ z,cat [#[z]]=#[z]:=fun z=>rfl
    rw [e1,e1,Array.setIfInBounds_append_right (qR _),zaA,Array.setIfInBounds_append_left (by simp)]
    rfl
  rw [←e]
  exact QbU ty x y g _ t _ v hg ho hx hy hi hs h1 hcs
end Sha
end
section
namespace Sha
open Go Go.RowKit
open Rely Auto Own
theorem addC (g B:Nat) (t ys:List Int) (v:Value) (tc:TypeId) (w:World) (hc:w.heap[1]? = some (.cells (ints .u64 QbI) tc)) (hcg:1≠g) (hB:ys=[]∨v.ownBlock≠some g) (hyb:Qaf ys) (hlen:t.length+ys.length≤1000000000) (hd:HasD g t w) (hy:RdK .u8 B ys v w) :
  Calls Tryz.prog 43 #[.pointer (some ⟨g,0,none⟩),v] w (fun e W=>e=.returned (.tuple #[])∧ExtB g w W∧HasD g (t++ys) W):=by
 obtain ⟨a0,c0,rfl,-⟩:=id hy
 refine enter 40 [(0,.pointer (some ⟨g,0,none⟩)),(1,.slice a0 ys.length c0)] Tryz.func43 rfl rfl kj rfl <| wp_seq_k fun K3 hK3=>sgB kj <| cond_false kj <| wp_skip <| hK3 _ _ <| wp_block ?_
 have hyb2:∀ {k:Nat},Qaf (ys.drop k):=fun x hx=>hyb x (zaw hx)
 refine QaT (fun (s1:Nat×Option Addr×Nat)=>[(0,.pointer (some ⟨g,0,none⟩)),(1,.slice s1.2.1 (ys.length-s1.1) s1.2.2)]) (fun (s1:Nat×Option Addr×Nat) W=>(s1.1≤ys.length)∧(RdK .u8 B (ys.drop s1.1) (.slice s1.2.1 (ys.length-s1.1) s1.2.2) W)∧(s1.1<ys.length→(za9 s1.2.1 (ys.length-s1.1) s1.2.2).ownBlock≠some g)∧(HasD g (t++ys.take s1.1) W)∧(ExtB g w W)) (fun (s1:Nat×Option Addr×Nat)=>ys.length-s1.1) (0,a0,c0) ⟨kj,kj,trivial⟩ ⟨(zal _),hy,(fun h=>hB.resolve_left (fun e=>by rw [e] at h; exact absurd h (Nat.lt_irrefl _))),(by simpa using hd),(ExtB.refl g w)⟩ fun s1 X1 V1 hI1=>?_
 obtain ⟨k,a,c⟩:=s1
 obtain ⟨hk,hr,hnb,hD,xx1⟩:=hI1
 replace hk:k≤ys.length:=hk
 replace hr:RdK .u8 B (ys.drop k) (.slice a (ys.length-k) c) V1:=hr
 replace hnb:k<ys.length→(za9 a (ys.length-k) c).ownBlock≠some g:=hnb
 replace hD:HasD g (t++ys.take k) V1:=hD
 replace xx1:ExtB g w V1:=xx1
 refine wp_seq_k fun K5 hK5=>sgB kj <| QaC (t:=decide (((ys.length-k:Nat):Int)>0)) kj (fun c7=>?_) (fun c7=>?_)
 ·skip
  have hk2:k<ys.length:=by have:=of_decide_eq_true c7; omega
  obtain ⟨b,hbl,hbb,hbp,hmany,hrow⟩:=hD
  obtain ⟨t1,ht1⟩:∃ z,z=t++ys.take k:=⟨_,rfl⟩
  rw [←ht1] at hbp hmany hrow
  have hlt1:t1.length=t.length+k:=by rw [ht1,zas,zat]; omega
  obtain ⟨m,hm⟩:∃ z,z=t1.length:=⟨_,rfl⟩
  obtain ⟨s,hs⟩:∃ z,z=absorb S0 t1 (t1.length/64):=⟨_,rfl⟩
  obtain ⟨n,hn⟩:∃ z,z=min (ys.drop k).length (64-m%64):=⟨_,rfl⟩
  have hn0:0<n:=by rw [hn,zar]; omega
  have hn1:n≤ys.length-k:=by rw [hn,zar]; omega
  have hn2:n≤64-m%64:=by rw [hn]; omega
  rw [←hs,←hm] at hrow
  replace hrow:V1.heap[g]? = some (.cells (cat [ints .u32 ([wv s.a,wv s.b,wv s.c,wv s.d,wv s.e,wv s.f,wv s.g,wv s.h]),ints .u8 (b),#[.int .i64 ((m:Nat):Int)]]) 114):=hrow
  refine wp_skip <| hK5 _ _ <| wp_block <| wp_seq_k fun K8 hK8=>Qba 10 [⟨none,[(0,none)]⟩,⟨none,[(10,some 0)]⟩,⟨none,[(11,some 1)]⟩,⟨none,[(0,none)]⟩,⟨none,[(13,some 3)]⟩,⟨none,[(14,some 4)]⟩,⟨none,[(15,some 5)]⟩,⟨none,[(16,some 6)]⟩,⟨none,[(12,some 2),(17,some 7)]⟩,⟨none,[(1,none)]⟩] kj kj fun F hF=>Qa6 (Qar _) (.pointer (some ⟨g,0,none⟩)) kj kj (fun _=>kj) <| Qa6 (Qar _) (.pointer (some ⟨g,0,none⟩)) kj kj (fun _=>kj) <| Qa6 (Qar _) (.pointer (some ⟨g,8,none⟩)) kj kj (fun _=>kj) <| Qa6 (Qar _) (.pointer (some ⟨g,0,none⟩)) kj kj (fun _=>kj) <| Qa6 (Qar _) (.pointer (some ⟨g,0,none⟩)) kj kj (fun _=>kj) ?_
  refine Qa6 (Qar _) (.pointer (some ⟨g,72,none⟩)) kj kj (fun _=>kj) <| QcF (Qar _) (.int .i64 ((m:Nat):Int)) kj kj (fun W hR=>(Qaj 3 _ g 72 114 _ (.int .i64 ((m:Nat):Int)) _ (Qaa (Qaa hrow (Qah _)) hR) rfl kj (Qaq [ints .u32 ([wv s.a,wv s.b,wv s.c,wv s.d,wv s.e,wv s.f,wv s.g,wv s.h]),ints .u8 (b)] [#[.int .i64 ((m:Nat):Int)]] [] 72 (by rw [Qab,Qab]; simp only [qS,cat,(izT hbl)]; rfl) 0 _ rfl) kj)) ?_
  refine Qa6 (Qar _) (.int .i64 ((m%64:Nat):Int)) kj kj (fun W=>(Qam (u:=.int .i64 (zaB (((m:Nat):Int)) (64))) kj (congrArg (zam .i64) (QcR _ 64)))) <| Qa6 (Qar _) (.slice (some ⟨g,8+(m%64),none⟩) (64-(m%64)) (64-(m%64))) kj kj (fun W=>(Qct 112 _ _ _ (m%64) 64 64 g 8 5 rfl kj kj kj ⟨.i64,by kernel_rfl⟩ rfl (by omega) (by omega) (by omega))) <| Qa6 (Qar _) (.slice a (ys.length-k) c) kj kj (fun _=>kj) <| Qdr (hF _ fun W2 e2=>?_)
  simp only [zaj,zak,zaf,zag,zah,zai,finE,up]
  clear hF
  have f9_2:=(hr.ext e2)
  have hbl2:(into b (ys.drop k) (m%64) n).length=64:=into_len hbl (by rw [zar]; omega) (by omega)
  refine Qly (.tmp 18) (.tmp 19) 24 24 20 rfl kj rfl kj (q:=m%64) (n:=n) (b:=b) rfl hbl kj kj f9_2 (Qaa hrow e2) (by omega) hn (by rw [zar]; omega) fun W3 p3 r2_3=>?_
  refine sg 1 kj <| sgN hK8 <| sgC fun K10 hK10=>sg 2 kj <| Qhl 24 (.tmp 21) (.tmp 22) n (ys.length-k-n) 5 23 rfl rfl kj kj (f9_2.putsN p3 (hnb hk2)) kj kj .i64 kj (by rw [zar]; omega) (by rw [zar]) fun a2 c2 hr2 hob=>?_
  have hnb2:(za9 a2 (ys.length-k-n) c2).ownBlock≠some g:=by rw [hob]; exact hnb hk2
  refine sg 1 kj <| sgN hK10 <| sgC fun K12 hK12=>sg 3 kj <| Qac (.int .i64 ((m:Nat):Int)) 27 rfl kj (Qaj 3 _ g 72 114 _ (.int .i64 ((m:Nat):Int)) _ r2_3 rfl kj (Qaq [ints .u32 ([wv s.a,wv s.b,wv s.c,wv s.d,wv s.e,wv s.f,wv s.g,wv s.h]),ints .u8 (into b (ys.drop k) (m%64) n)] [#[.int .i64 ((m:Nat):Int)]] [] 72 (by rw [Qab,Qab]; simp only [qS,cat,(izT hbl2)]; rfl) 0 _ rfl) kj) ?_
  refine sg 1 kj <| Qac (.int .i64 ((m+n:Nat):Int)) 29 rfl kj (Qam (u:=.int .i64 (zao.wrap (((m:Nat):Int)+((n:Nat):Int)))) kj (congrArg (zam .i64) (i64n _ _ (by omega) (by omega)))) <| sg 2 kj <| Qai g _ (cat [ints .u32 ([wv s.a,wv s.b,wv s.c,wv s.d,wv s.e,wv s.f,wv s.g,wv s.h]),ints .u8 (into b (ys.drop k) (m%64) n),#[.int .i64 ((m+n:Nat):Int)]]) 114 r2_3 rfl kj (run_storeQ 3 _ _ g 72 114 [ints .u32 ([wv s.a,wv s.b,wv s.c,wv s.d,wv s.e,wv s.f,wv s.g,wv s.h]),ints .u8 (into b (ys.drop k) (m%64) n)] [] _ (.int .i64 ((m+n:Nat):Int)) r2_3 rfl kj kj kj (by rw [Qab,Qab]; simp only [qS,cat,(izT hbl2)]; rfl) rfl rfl) fun W4 p4 r2_4=>?_
  have x4:=ExtB.puts (ExtB.puts (zbw xx1 e2) p3) p4
  refine sgN hK12 <| sgC fun K13 hK13=>sg 3 kj <| Qac (.int .i64 ((m+n:Nat):Int)) 35 rfl kj (Qaj 3 _ g 72 114 _ (.int .i64 ((m+n:Nat):Int)) _ r2_4 rfl kj (Qaq [ints .u32 ([wv s.a,wv s.b,wv s.c,wv s.d,wv s.e,wv s.f,wv s.g,wv s.h]),ints .u8 (into b (ys.drop k) (m%64) n)] [#[.int .i64 ((m+n:Nat):Int)]] [] 72 (by rw [Qab,Qab]; simp only [qS,cat,(izT hbl2)]; rfl) 0 _ rfl) kj) ?_
  refine Qac (.int .i64 (((m+n)%64:Nat):Int)) 36 rfl kj (Qam (u:=.int .i64 (zaB (((m+n:Nat):Int)) (64))) kj (congrArg (zam .i64) (QcR _ 64))) <| sg 1 kj <| sgN hK13 <| QaC (t:=((((m+n)%64:Nat):Int)==0)) kj (fun c14=>?_) (fun c14=>?_)
  ·skip
   have hmod:(m+n)%64=0:=by have:=c14; have h2:=eq_of_beq this; omega
   refine Qao <| sg 1 kj <| Qaw (fun v W'=>v=.tuple #[]∧ExtB g W4 W'∧W'.heap[g]? = some (.cells (cat [ints .u32 ((blk s (into b (ys.drop k) (m%64) n)).l.map wv),ints .u8 (into b (ys.drop k) (m%64) n),#[.int .i64 ((m+n:Nat):Int)]]) 114)) 64 #[.pointer (some ⟨g,0,none⟩)] 39 rfl kj kj ((QqQ g s _ hbl2 (Qf4 hbb hyb2) _ tc _ (zbt p4 (zbt p3 (Qaa (zbx xx1 hc hcg) e2) hcg) hcg) r2_4).mono fun e w' h=>⟨_,h.1,rfl,h.2⟩) fun v W5 h=>?_
   obtain ⟨rfl,q5,r2_5⟩:=h
   refine Qaz ?_
   have hr3:RdK .u8 B (ys.drop (k+n)) (.slice a2 (ys.length-(k+n)) c2) W5:=by
    have h:=((hr2.putsN p4 hnb2).extN q5 hnb2)
    rw [zaC,show ys.length-k-n=ys.length-(k+n) by omega] at h
    exact h
   have hlen3:(t1++(ys.drop k).take n).length=m+n:=by rw [zas,zat,zar]; omega
   have hnb3:(za9 a2 (ys.length-(k+n)) c2).ownBlock≠some g:=by rw [show ys.length-(k+n)=ys.length-k-n by omega]; exact hnb2
   have hT:t++ys.take (k+n)=t1++(ys.drop k).take n:=by rw [ht1,za2,List.take_add]
   have hzn:n≤(ys.drop k).length:=by rw [zar]; omega
   have hb0:(into b (ys.drop k) (m%64) n).take ((t++ys.take (k+n)).length%64)=(t++ys.take (k+n)).drop (64*((t++ys.take (k+n)).length/64)):=by
    rw [hT,hlen3,hmod,zag,zaD (by omega)]
   have hst:blk s (into b (ys.drop k) (m%64) n)=absorb S0 (t++ys.take (k+n)) ((t++ys.take (k+n)).length/64):=by rw [hT,hs,hm]; exact Qmj hbl hzn hbp (by omega)
   have hD2:HasD g (t++ys.take (k+n)) W5:=⟨_,hbl2,Qf4 hbb hyb2,hb0,by rw [hT,hlen3]; omega,by rw [←hst,hT,hlen3]; exact r2_5⟩
   repeat (first | with_reducible refine goX1 ?_ | with_reducible refine goX2 ?_ | with_reducible refine goX3 ?_)
   exact QaL (k+n,a2,c2) ⟨kj,(congrArg (fun z=>za9 a2 z c2) (by omega)),trivial⟩ ⟨(by omega),hr3,(fun _=>hnb3),hD2,(ExtB.trans x4 q5)⟩ (by show ys.length-(k+n)<ys.length-k; omega)
  ·skip
   have hmod:¬ (m+n)%64=0:=by have:=c14; intro h0; rw [h0] at this; exact absurd this (by decide)
   refine wp_skip ?_
   have hr3:RdK .u8 B (ys.drop (k+n)) (.slice a2 (ys.length-(k+n)) c2) W4:=by
    have h:=(hr2.putsN p4 hnb2)
    rw [zaC,show ys.length-k-n=ys.length-(k+n) by omega] at h
    exact h
   have hlen3:(t1++(ys.drop k).take n).length=m+n:=by rw [zas,zat,zar]; omega
   have hnb3:(za9 a2 (ys.length-(k+n)) c2).ownBlock≠some g:=by rw [show ys.length-(k+n)=ys.length-k-n by omega]; exact hnb2
   have hT:t++ys.take (k+n)=t1++(ys.drop k).take n:=by rw [ht1,za2,List.take_add]
   have hzn:n≤(ys.drop k).length:=by rw [zar]; omega
   have hb0:(into b (ys.drop k) (m%64) n).take ((t++ys.take (k+n)).length%64)=(t++ys.take (k+n)).drop (64*((t++ys.take (k+n)).length/64)):=by
    rw [hT,hm]; exact Qmk hbl hzn hbp (by omega)
   have hst:s=absorb S0 (t++ys.take (k+n)) ((t++ys.take (k+n)).length/64):=by rw [hT,hs]; exact (Qk7 hzn (by omega)).symm
   have hD2:HasD g (t++ys.take (k+n)) W4:=⟨_,hbl2,Qf4 hbb hyb2,hb0,by rw [hT,hlen3]; omega,by rw [←hst,hT,hlen3]; exact r2_4⟩
   repeat (first | with_reducible refine goX1 ?_ | with_reducible refine goX2 ?_ | with_reducible refine goX3 ?_)
   exact QaL (k+n,a2,c2) ⟨kj,(congrArg (fun z=>za9 a2 z c2) (by omega)),trivial⟩ ⟨(by omega),hr3,(fun _=>hnb3),hD2,x4⟩ (by show ys.length-(k+n)<ys.length-k; omega)
 ·skip
  have hk2:k=ys.length:=by have:=of_decide_eq_false c7; omega
  refine wp_exit ?_
  repeat (first | with_reducible refine goX1 ?_ | with_reducible refine goX2 ?_ | with_reducible refine goX3 ?_)
  exact (show bodyPost _ _ _ .normal _ _ from end0 rfl ⟨rfl,xx1,by rw [hk2,List.take_length] at hD; exact hD⟩)
end Sha
end
section
namespace Sha
open Go Go.RowKit
open Rely Auto Own
theorem Qg4 (n : Nat):Qaf (zae n 0):=fun x hx=>by
  have:=List.eq_of_mem_replicate hx
  subst this; decide
theorem Qp2 (n : Nat):(64-(n+1+8)%64)%64=QbW n:=by unfold QbW; omega
theorem QpQ (n : Nat) (h:n≤1000000000):zab.wrap ((n:Nat):Int)=((n:Nat):Int):=by
  have:∀ z:Int,zab.wrap z=z%2^64:=fun _=>rfl
  rw [this]; omega
theorem QqO (n : Nat) (h:n≤1000000000):zab.wrap (((n:Nat):Int)*2^min (3:Int).toNat zab.bits)=((8*n:Nat):Int):=by
  have:∀ z:Int,zab.wrap z=z%2^64:=fun _=>rfl
  rw [this,show ((2:Int)^min (3:Int).toNat zab.bits)=8 from rfl]; omega
theorem QpS (n : Nat) (h:n≤1000000000):((n:Nat):Int).fdiv (2^min (61:Int).toNat zab.bits)=0:=by
  rw [zac _ (by decide),show ((2:Int)^min (61:Int).toNat zab.bits)=2305843009213693952 from rfl]; omega
theorem Qq6 (m : Nat):zaE.wrap ((m:Nat):Int)=((m%256:Nat):Int):=by
  have:∀ z:Int,zaE.wrap z=z%2^8:=fun _=>rfl
  rw [this]; omega
theorem QqW (n i:Nat):((8*n/256^i:Nat):Int).fdiv (2^min (8:Int).toNat zab.bits)=((8*n/256^(i+1):Nat):Int):=by
  rw [zac _ (by decide),show ((2:Int)^min (8:Int).toNat zab.bits)=256 from rfl,Nat.pow_succ,←Nat.div_div_eq_div_mul]; omega
theorem lowlt (n i:Nat) (h:n≤1000000000):8*n/256^(i+1)<18446744073709551616:=Nat.lt_of_le_of_lt (Nat.div_le_self _ _) (by omega)
theorem or0 (m : Nat) (h:m<18446744073709551616):bits .or .u64 ((m:Nat):Int) 0=((m:Nat):Int):=by
  have:=bits_or_u64_nat m 0 h (by decide)
  rw [Nat.or_zero] at this
  exact this
def padL (n i:Nat):List Int:=128::(zae (QbW n) 0++(zae (8-i) 0++(be8 (8*n)).drop (8-i)))
theorem Qnp (n : Nat) {i:Nat} (h:i≤8):(padL n i).length=1+QbW n+8:=by
  have:(be8 (8*n)).length=8:=rfl
  simp [padL,this]; omega
theorem QhR (n : Nat):(QfO n).length=1+QbW n+8:=by
  have:(be8 (8*n)).length=8:=rfl
  simp [QfO,this]; omega
theorem Qqi (n : Nat):(zae (1+QbW n+8) (0:Int)).set 0 128=padL n 0:=by
  rw [show 1+QbW n+8=(QbW n+8)+1 by omega,zaF,zaG,←List.replicate_append_replicate]
  rfl
theorem Qno (n i:Nat) (h:i<8):(padL n i).set (1+QbW n+8-1-i) ((8*n/256^i%256:Nat):Int)=padL n (i+1):=by
  unfold padL
  rw [show 1+QbW n+8-1-i=(QbW n+(7-i))+1 by omega,List.set_cons_succ,zaH _ _ (by simp),qZ,Nat.add_sub_cancel_left]
  congr 2
  match i,h with
  | 0,_=>rfl
  | 1,_=>rfl
  | 2,_=>rfl
  | 3,_=>rfl
  | 4,_=>rfl
  | 5,_=>rfl
  | 6,_=>rfl
  | 7,_=>rfl
theorem Qnn (n : Nat) (hn:n≤1000000000) (w:World):Calls Tryz.prog 65 #[.int .i64 ((n:Nat):Int),.int .i64 64,.int .i64 8] w (QcL w (OwnN .u8 5 w.heap.size (QfO n))):=by
 have hF:QbW n<64:=by unfold QbW; omega
 refine enter 59 [(0,.int .i64 ((n:Nat):Int)),(1,.int .i64 64),(2,.int .i64 8)] Tryz.func65 rfl rfl kj rfl <| sgB kj <| sgC fun K2 hK2=>sg 2 kj <| Qac (.int .i64 ((n+1:Nat):Int)) 15 rfl kj (Qam (u:=.int .i64 (zao.wrap (((n:Nat):Int)+1))) kj (congrArg (zam .i64) (i64n _ _ (by omega) (by omega)))) <| sg 1 kj <| Qac (.int .i64 (((n+1)+8:Nat):Int)) 17 rfl kj (Qam (u:=.int .i64 (zao.wrap (((n+1:Nat):Int)+8))) kj (congrArg (zam .i64) (i64n _ _ (by omega) (by omega)))) <| sg 1 kj <| Qac (.int .i64 ((((n+1)+8)%64:Nat):Int)) 19 rfl kj (Qam (u:=.int .i64 (zaB ((((n+1)+8:Nat):Int)) (64))) kj (congrArg (zam .i64) (QcR _ 64))) <| Qac (.int .i64 ((64-(((n+1)+8)%64):Nat):Int)) 20 rfl kj (Qam (u:=.int .i64 (zao.wrap (64-((((n+1)+8)%64:Nat):Int)))) kj (congrArg (zam .i64) (i64n _ _ (by omega) (by omega)))) ?_
 refine sg 1 kj <| Qac (.int .i64 (((QbW n:Nat):Int))) 22 rfl kj (Qam (u:=.int .i64 (zaB (((64-(((n+1)+8)%64):Nat):Int)) (64))) kj (congrArg (zam .i64) ((QcR _ 64).trans (congrArg (fun z:Nat=>(z:Int)) (Qp2 n))))) <| sg 1 kj <| sgN hK2 <| sgC fun K3 hK3=>sg 1 kj <| Qac (.int .i64 ((1+(QbW n):Nat):Int)) 24 rfl kj (Qam (u:=.int .i64 (zao.wrap (1+(((QbW n:Nat):Int))))) kj (congrArg (zam .i64) (i64n _ _ (by omega) (by omega)))) <| sg 1 kj <| Qac (.int .i64 (((1+(QbW n))+8:Nat):Int)) 26 rfl kj (Qam (u:=.int .i64 (zao.wrap (((1+(QbW n):Nat):Int)+8))) kj (congrArg (zam .i64) (i64n _ _ (by omega) (by omega)))) <| QbM (ints .u8 (zae ((1+(QbW n))+8) 0)) 5 ((1+(QbW n))+8) 27 rfl kj (Qfa 24 _ _ .i64 .i64 ((1+(QbW n))+8) 5 rfl kj kj kj (.inr kj) (by omega)) fun g4 W1 l4 e1 r4_1=>?_
 have b4:=qT (zbr w).size l4
 refine sg 1 kj <| sgN hK3 <| sgC fun K5 hK5=>sg 1 kj <| Qac (.pointer (some ⟨g4,0,none⟩)) 29 rfl kj (QbN 24 _ _ .i64 (0) g4 ((1+(QbW n))+8) ((1+(QbW n))+8) 5 rfl kj kj kj kj (by omega)) <| Qai g4 _ (ints .u8 ((zae ((1+(QbW n))+8) 0).set 0 128)) 5 r4_1 rfl kj (Qa1 5 _ _ g4 0 5 _ _ r4_1 rfl kj kj kj (zan (by omega) (qZ (n:=((1+(QbW n))+8))).symm)) fun W2 p2 r4_2=>sgN hK5 <| sgC fun K6 hK6=>sg 1 kj <| Qac (.int .u64 (((n:Nat):Int))) 31 rfl kj (Qam (u:=.int .u64 (zab.wrap ((n:Nat):Int))) kj (congrArg (zam .u64) (QpQ n (by omega)))) ?_
 refine Qac (.int .u64 (((8*n:Nat):Int))) 32 rfl kj (Qbu .shl _ _ _ _ .u64 .u64 _ _ _ rfl kj kj (QgC _ _ _ _ _ _ (by decide) (QqO n (by omega)))) <| sg 1 kj <| Qac (.int .u64 (((n:Nat):Int))) 34 rfl kj (Qam (u:=.int .u64 (zab.wrap ((n:Nat):Int))) kj (congrArg (zam .u64) (QpQ n (by omega)))) <| Qac (.int .u64 (0)) 35 rfl kj (Qbu .shr _ _ _ _ .u64 .u64 _ _ _ rfl kj kj (QdS _ _ _ _ _ _ (by decide) (QpS n (by omega)))) <| sg 2 kj <| sgN hK6 <| wp_seq_k fun K7 hK7=>sgB kj <| wp_block <| QaT (fun (s1:Nat)=>[(8,.slice (some ⟨g4,0,none⟩) ((1+(QbW n))+8) ((1+(QbW n))+8)),(9,.int .u64 ((8*n/256^s1:Nat):Int)),(10,.int .u64 0),(36,.int .i64 8),(37,.int .i64 ((s1:Nat):Int))]) (fun (s1:Nat) W=>(s1≤8)∧(W.heap[g4]? = some (.cells (ints .u8 (padL n s1)) 5))∧(Qa0 [g4] W2 W)∧(Ext w W)) (fun (s1:Nat)=>8-s1) 0 ⟨kj,(congrArg (fun z:Nat=>zam .u64 (z:Int)) (Nat.div_one _).symm),kj,kj,kj,trivial⟩ ⟨(zal _),(QaG r4_2 (Qqi n)),(zbz [g4] W2),(zbu p2 (zbv (zbr w) e1) b4)⟩ fun s1 X1 V1 hI1=>?_
 obtain ⟨i,hs1⟩:∃ z,z=s1:=⟨_,rfl⟩
 subst hs1
 obtain ⟨hi,q4_1,kk1,xx1⟩:=hI1
 replace hi:i≤8:=hi
 replace q4_1:V1.heap[g4]? = some (.cells (ints .u8 (padL n i)) 5):=q4_1
 replace kk1:Qa0 [g4] W2 V1:=kk1
 replace xx1:Ext w V1:=xx1
 have q3:=kk1
 refine sgB kj <| wp_seq_k fun K10 hK10=>QaC (t:=decide (((i:Nat):Int)<8)) kj (fun c11=>?_) (fun c11=>?_)
 ·skip
  have hlt38:i<8:=by have:=of_decide_eq_true c11; omega
  refine wp_skip <| hK10 _ _ <| wp_seq_k fun K12 hK12=>wp_block <| sgB kj <| sgC fun K14 hK14=>sg 1 kj <| Qac (.int .u8 (((8*n/256^i%256:Nat):Int))) 41 rfl kj (Qam (u:=.int .u8 (zaE.wrap ((8*n/256^i:Nat):Int))) kj (congrArg (zam .u8) (Qq6 _))) <| sg 1 kj <| sgN hK14 ?_
  refine sgC fun K15 hK15=>sg 3 kj <| Qac (.int .i64 ((((1+(QbW n))+8)-1:Nat):Int)) 45 rfl kj (Qam (u:=.int .i64 (zao.wrap ((((1+(QbW n))+8:Nat):Int)-1))) kj (congrArg (zam .i64) (i64n _ _ (by omega) (by omega)))) <| sg 1 kj <| Qac (.int .i64 (((((1+(QbW n))+8)-1)-i:Nat):Int)) 47 rfl kj (Qam (u:=.int .i64 (zao.wrap (((((1+(QbW n))+8)-1:Nat):Int)-((i:Nat):Int)))) kj (congrArg (zam .i64) (i64n _ _ (by omega) (by omega)))) <| sg 1 kj <| Qac (.pointer (some ⟨g4,((((1+(QbW n))+8)-1)-i),none⟩)) 49 rfl kj (QbN 24 _ _ .i64 ((((1+(QbW n))+8)-1)-i) g4 ((1+(QbW n))+8) ((1+(QbW n))+8) 5 rfl kj kj kj kj (by omega)) <| Qai g4 _ (ints .u8 ((padL n i).set ((((1+(QbW n))+8)-1)-i) (((8*n/256^i%256:Nat):Int)))) 5 q4_1 rfl kj (Qa1 5 _ _ g4 ((((1+(QbW n))+8)-1)-i) 5 _ _ q4_1 rfl kj kj kj (zan (by omega) (Qnp n (by omega)).symm)) fun W4 p4 r4_4=>sgN hK15 <| sgC fun K16 hK16=>?_
  refine sg 1 kj <| Qac (.int .u64 (((8*n/256^(i+1):Nat):Int))) 51 rfl kj (Qbu .shr _ _ _ _ .u64 .u64 _ _ _ rfl kj kj (QdS _ _ _ _ _ _ (by decide) (QqW n i))) <| sg 1 kj <| Qac (.int .u64 (0)) 53 rfl kj (Qbu .shl _ _ _ _ .u64 .u64 _ _ _ rfl kj kj (QgC _ _ _ _ _ _ (by decide) (show zab.wrap (0*2^min (56:Int).toNat zab.bits)=0 from rfl))) <| Qac (.int .u64 (((8*n/256^(i+1):Nat):Int))) 54 rfl kj (Qam (u:=.int .u64 (bits .or .u64 (((8*n/256^(i+1):Nat):Int)) (0))) kj (congrArg (zam .u64) (or0 _ (lowlt n i (by omega))))) <| sg 1 kj <| sgN hK16 <| Qao <| sg 1 kj <| Qac (.int .u64 (0)) 56 rfl kj (Qbu .shr _ _ _ _ .u64 .u64 _ _ _ rfl kj kj (QdS _ _ _ _ _ _ (by decide) (show Int.fdiv 0 (2^min (8:Int).toNat zab.bits)=0 from rfl))) ?_
  refine sg 1 kj <| Qaz <| hK12 _ _ <| Qao <| Qac (.int .i64 ((i+1:Nat):Int)) 57 rfl kj (Qam (u:=.int .i64 (zao.wrap (((i:Nat):Int)+1))) kj (congrArg (zam .i64) (i64n _ _ (by omega) (by omega)))) <| sg 1 kj <| Qaz ?_
  repeat (first | with_reducible refine goX1 ?_ | with_reducible refine goX2 ?_ | with_reducible refine goX3 ?_)
  exact QaL (i+1) ⟨kj,kj,kj,kj,kj,trivial⟩ ⟨(by omega),(QaG r4_4 (Qno n i hlt38)),(zb2 q3 p4 (.inl (by simp))),(zbu p4 xx1 b4)⟩ (by omega)
 ·skip
  have heq38:i=8:=by have:=of_decide_eq_false c11; omega
  have r4_3_17:V1.heap[g4]? = some (.cells (ints .u8 (QfO n)) 5):=QaG q4_1 (by rw [heq38]; rfl)
  refine wp_exit <| hK7 _ _ <| sgB kj <| wp_ret ?_
  repeat (first | with_reducible refine goR1 ?_ | with_reducible refine goR2 ?_)
  exact (show bodyPost _ _ _ .ret _ _ from ret1 (.slice (some ⟨g4,0,none⟩) ((1+(QbW n))+8) ((1+(QbW n))+8)) rfl (Qa4 kj) ⟨_,rfl,xx1,QdD (QhR n) b4 r4_3_17 (by simp only [maxLen]; omega)⟩)
theorem newC (tq : TypeId) (w:World) (hq:w.heap[0]? = some (.cells (ints .u64 Qbf) tq)):Calls Tryz.prog 42 #[] w (QcL w (fun v W=>∃ g,v=.pointer (some ⟨g,0,none⟩)∧w.heap.size≤g∧HasD g [] W)):=by
 refine enter 21 [] Tryz.func42 rfl rfl kj rfl <| sgB kj <| sgC fun K3 hK3=>sg 1 kj <| Qak (cat [ints .u32 ([0,0,0,0,0,0,0,0]),ints .u8 (zae 64 0),#[.int .i64 0]]) 114 5 rfl kj kj fun g4 W1 l4 e1 r4_1=>?_
 have b4:=qT (zbr w).size l4
 refine sg 1 kj <| sgN hK3 <| wp_seq_k fun K5 hK5=>sgC fun K6 hK6=>Qac (.agg (ints .u64 (Qbf))) 6 rfl kj (Qae 116 _ 0 tq _ _ (Qaa hq e1) rfl kj kj (isz (n:=8) kj (izT (show Qbf.length=8 from rfl)))) <| sg 1 kj <| sgN hK6 <| wp_block ?_
 have rz_:W1.heap[g4]? = some (.cells (cat [ints .u32 (fill (S0.l.map wv) 8 0),ints .u8 (zae 64 0),#[.int .i64 0]]) 114):=r4_1
 refine QaT (fun (s1:Nat)=>[(1,.pointer (some ⟨g4,0,none⟩)),(4,.agg (cat [ints .u32 ([0,0,0,0,0,0,0,0]),ints .u8 (zae 64 0),#[.int .i64 0]])),(5,.pointer (some ⟨g4,0,none⟩)),(6,.agg (ints .u64 (Qbf))),(7,.int .i64 ((s1:Nat):Int))]) (fun (s1:Nat) W=>(s1≤8)∧(W.heap[g4]? = some (.cells (cat [ints .u32 (fill (S0.l.map wv) 8 s1),ints .u8 (zae 64 0),#[.int .i64 0]]) 114))∧(Qa0 [g4] W1 W)∧(Ext w W)) (fun (s1:Nat)=>8-s1) 0 ⟨kj,kj,kj,kj,kj,trivial⟩ ⟨(zal _),rz_,(zbz [g4] W1),(zbv (zbr w) e1)⟩ fun s1 X1 V1 hI1=>?_
 obtain ⟨p,hs1⟩:∃ z,z=s1:=⟨_,rfl⟩
 subst hs1
 obtain ⟨hp,q4_1,kk1,xx1⟩:=hI1
 replace hp:p≤8:=hp
 replace q4_1:V1.heap[g4]? = some (.cells (cat [ints .u32 (fill (S0.l.map wv) 8 p),ints .u8 (zae 64 0),#[.int .i64 0]]) 114):=q4_1
 replace kk1:Qa0 [g4] W1 V1:=kk1
 replace xx1:Ext w V1:=xx1
 have q2:=kk1
 refine sgB kj <| wp_seq_k fun K8 hK8=>QaC (t:=decide (((p:Nat):Int)<8)) kj (fun c9=>?_) (fun c9=>?_)
 ·skip
  have hlt8:p<8:=by have:=of_decide_eq_true c9; omega
  refine wp_skip <| hK8 _ _ <| wp_seq_k fun K10 hK10=>wp_block <| sgC fun K11 hK11=>sg 1 kj <| Qac (.int .u64 (nth Qbf p)) 10 rfl kj (QaB 116 _ _ .i64 .u64 (Qbf) p 8 115 (nth Qbf p) rfl kj kj kj kj kj (show Qbf.length=8 from rfl) (by omega) rfl) <| sg 2 kj <| sgN hK11 <| Qao ?_
  refine sg 3 kj <| Qac (.int .u64 (nth Qbf p/4294967296)) 14 rfl kj (Qbu .shr _ _ _ _ .u64 .u64 _ _ _ rfl kj kj (QdS _ _ _ _ _ _ (by decide) (QpV _))) <| Qac (.int .u32 (nth (S0.l.map wv) p)) 15 rfl kj (Qam (u:=.int .u32 (zaa.wrap (nth Qbf p/4294967296))) kj (congrArg (zam .u32) ((by decide +kernel:∀ i:Fin 8,zaa.wrap (nth Qbf i.val/4294967296)=nth (S0.l.map wv) i.val) ⟨p,hlt8⟩))) <| sg 2 kj <| Qac (.pointer (some ⟨g4,0+p*1,none⟩)) 18 rfl kj (QcI 111 _ _ .i64 p g4 0 8 110 1 rfl kj kj kj kj (show p<8 by omega)) <| Qai g4 _ (cat [ints .u32 ((fill (S0.l.map wv) 8 p).set p (nth (S0.l.map wv) p)),ints .u8 (zae 64 0),#[.int .i64 0]]) 114 q4_1 rfl kj (Qfs 110 _ _ g4 (0+p*1) 114 [] [ints .u8 (zae 64 0),#[.int .i64 0]] (fill (S0.l.map wv) 8 p) 0 p _ q4_1 rfl kj kj kj kj (by omega) (zan (show p<8 by omega) (QbX (n:=8) rfl hp).symm)) fun W3 p3 r4_3=>Qaz <| hK10 _ _ <| Qao <| Qac (.int .i64 ((p+1:Nat):Int)) 19 rfl kj (Qam (u:=.int .i64 (zao.wrap (((p:Nat):Int)+1))) kj (congrArg (zam .i64) (i64n _ _ (by omega) (by omega)))) ?_
  refine sg 1 kj <| Qaz ?_
  have rg_:W3.heap[g4]? = some (.cells (cat [ints .u32 (fill (S0.l.map wv) 8 (p+1)),ints .u8 (zae 64 0),#[.int .i64 0]]) 114):=by have h9:=r4_3; rw [Qdq (n:=8) rfl hlt8] at h9; exact h9
  repeat (first | with_reducible refine goX1 ?_ | with_reducible refine goX2 ?_ | with_reducible refine goX3 ?_)
  exact QaL (p+1) ⟨kj,kj,kj,kj,kj,trivial⟩ ⟨(by omega),rg_,(zb2 q2 p3 (.inl (by simp))),(zbu p3 xx1 b4)⟩ (by show 8-(p+1)<8-p; omega)
 ·skip
  have heq8:p=8:=by have:=of_decide_eq_false c9; omega
  have rh_:V1.heap[g4]? = some (.cells (cat [ints .u32 (S0.l.map wv),ints .u8 (zae 64 0),#[.int .i64 0]]) 114):=by have h9:=q4_1; rw [heq8,QdQ (show (S0.l.map wv).length=8 from rfl)] at h9; exact h9
  refine wp_exit <| hK5 _ _ <| sgB kj <| wp_ret ?_
  repeat (first | with_reducible refine goR1 ?_ | with_reducible refine goR2 ?_)
  exact (show bodyPost _ _ _ .ret _ _ from ret1 (.pointer (some ⟨g4,0,none⟩)) rfl (Qa4 kj) ⟨_,rfl,xx1,_,rfl,b4,zae 64 0,qZ,Qg4 64,rfl,zal _,rh_⟩)
end Sha
end
section
namespace Sha
open Go Go.RowKit
open Rely Auto Own
theorem QpK (x : Int):zaE.wrap x=x%256:=by
  have:zaE.wrap x=x%2^8:=rfl
  rw [this]; rfl
theorem QpP (x : Wd) (n d:Nat) (h:2^n=d):zaE.wrap (wv (x>>>n))=((x.toNat/d%256:Nat):Int):=by
  subst h
  rw [QpK]; unfold wv; rw [BitVec.toNat_ushiftRight,Nat.shiftRight_eq_div_pow]; omega
theorem out_byte (s : S8) {a b:Nat} (ha:a<8) (hb:b<4):zaE.wrap (wv (wget s.l a>>>(24-8*b)))=nth s.out (4*a+b):=by
  rcases (show b=0∨b=1∨b=2∨b=3 by omega) with rfl | rfl | rfl | rfl <;> rcases (show a=0∨a=1∨a=2∨a=3∨a=4∨a=5∨a=6∨a=7 by omega) with rfl | rfl | rfl | rfl | rfl | rfl | rfl | rfl <;> exact QpP _ _ _ (by decide)
theorem QiU (n : Nat):Qaf (QfO n):=fun x hx=>by
  unfold QfO at hx
  rcases zaI.1 hx with h | h
  · omega
  · rcases zau.1 h with h | h
    · exact Qg4 _ x h
    · simp only [be8,zaI,zaJ,or_false] at h
      rcases h with h | h | h | h | h | h | h | h <;> omega
set_option maxHeartbeats 8000000 in
theorem sumC (g : Nat) (t:List Int) (tc:TypeId) (w:World) (hc:w.heap[1]? = some (.cells (ints .u64 QbI) tc)) (hlen:t.length≤900000000) (hd:HasD g t w):Calls Tryz.prog 44 #[.pointer (some ⟨g,0,none⟩)] w (Ret w (.agg (ints .u8 (dig t)))):=by
 obtain ⟨b,hbl,hbb,hbp,hmany,hrow⟩:=hd
 obtain ⟨s,hs⟩:∃ z,z=absorb S0 t (t.length/64):=⟨_,rfl⟩
 rw [←hs] at hrow
 replace hrow:w.heap[g]? = some (.cells (cat [ints .u32 ([wv s.a,wv s.b,wv s.c,wv s.d,wv s.e,wv s.f,wv s.g,wv s.h]),ints .u8 (b),#[.int .i64 ((t.length:Nat):Int)]]) 114):=hrow
 refine enter 43 [(0,.pointer (some ⟨g,0,none⟩))] Tryz.func44 rfl rfl kj rfl <| sgC fun K3 hK3=>Qak (ints .u8 (zae 32 0)) 35 2 rfl kj kj fun g4 W1 l4 e1 r4_1=>?_
 have x1:=zbv (zbr w) e1
 refine sgN hK3 <| sgC fun K5 hK5=>Qak (ints .u8 (zae 32 0)) 35 3 rfl kj kj fun g6 W2 l6 e2 r6_2=>?_
 have x2:=zbv x1 e2
 refine sgN hK5 <| wp_seq_k fun K7 hK7=>sgB kj <| cond_false kj <| wp_skip <| hK7 _ _ <| sgC fun K9 hK9=>sg 2 kj ?_
 have r2_2:=(Qaa (Qaa hrow e1) e2)
 refine Qac (.agg (cat [ints .u32 ([wv s.a,wv s.b,wv s.c,wv s.d,wv s.e,wv s.f,wv s.g,wv s.h]),ints .u8 (b),#[.int .i64 ((t.length:Nat):Int)]])) 13 rfl kj (Qae 114 _ g 114 _ _ r2_2 rfl kj kj (isz (n:=73) kj (by rw [Qab,Qab,Qab]; simp only [qS,cat,(izT hbl)]; rfl))) ?_
 refine Qak (cat [ints .u32 ([0,0,0,0,0,0,0,0]),ints .u8 (zae 64 0),#[.int .i64 0]]) 114 4 rfl kj kj fun g10 W3 l10 e3 r10_3=>?_
 have b10:=qT x2.size l10
 refine Qai g10 _ (cat [ints .u32 ([wv s.a,wv s.b,wv s.c,wv s.d,wv s.e,wv s.f,wv s.g,wv s.h]),ints .u8 (b),#[.int .i64 ((t.length:Nat):Int)]]) 114 r10_3 rfl kj (Qag 114 _ _ g10 114 _ _ r10_3 rfl kj kj (isz (n:=73) kj (by rw [Qab,Qab,Qab]; simp only [qS,cat,(izT hbl)]; rfl)) (eqsz (n:=73) (by rw [Qab,Qab,Qab]; simp only [qS,cat,(izT (qZ (n:=64)))]; rfl) (by rw [Qab,Qab,Qab]; simp only [qS,cat,(izT hbl)]; rfl)) (Qch _ (by intro a ha; simp only [zaI,zaJ,or_false] at ha; rcases ha with rfl | rfl | rfl; exact (ints_one _ _); exact (ints_one _ _); exact (QbE _ rfl)))) fun W4 p4 r10_4=>?_
 refine sgN hK9 <| sgC fun K11 hK11=>sg 3 kj <| Qac (.int .i64 ((t.length:Nat):Int)) 17 rfl kj (Qaj 3 _ g 72 114 _ (.int .i64 ((t.length:Nat):Int)) _ (rpn p4 r2_2 e3 l10) rfl kj (Qaq [ints .u32 ([wv s.a,wv s.b,wv s.c,wv s.d,wv s.e,wv s.f,wv s.g,wv s.h]),ints .u8 (b)] [#[.int .i64 ((t.length:Nat):Int)]] [] 72 (by rw [Qab,Qab]; simp only [qS,cat,(izT hbl)]; rfl) 0 _ rfl) kj) ?_
 refine Qaw (fun v W'=>(OwnN .u8 5 W4.heap.size (QfO t.length)) v W'∧Ext W4 W') 65 #[.int .i64 ((t.length:Nat):Int),.int .i64 64,.int .i64 8] 18 rfl kj kj ((Qnn t.length (by omega) _).mono (by rintro e w' ⟨v,rfl,e1,hv⟩; exact ⟨v,rfl,hv,e1⟩)) fun vv12 W5 hh12=>?_
 obtain ⟨hv12,e5⟩:=hh12
 have r1_2:=(Qaa (Qaa hc e1) e2)
 have hd4:HasD g10 t W5:=⟨b,hbl,hbb,hbp,hmany,by rw [←hs]; exact (Qaa r10_4 e5)⟩
 have hp4:=hv12
 have hfl:QbW t.length<64:=by unfold QbW; omega
 have hpl:t.length+(QfO t.length).length≤1000000000:=by rw [QhR]; omega
 refine Qaw (fun v W'=>v=.tuple #[]∧ExtB g10 W5 W'∧HasD g10 (t++QfO t.length) W') 43 #[.pointer (some ⟨g10,0,none⟩),vv12] 19 rfl kj kj ((addC g10 _ t (QfO t.length) _ tc _ (Qaa (rpn p4 r1_2 e3 l10) e5) (Qad r1_2 l10) (.inr (hp4.nb (Qa7 r10_4))) (QiU _) hpl hd4 (OwnN.rd hp4)).mono fun e w' h=>⟨_,h.1,rfl,h.2⟩) fun v W6 h=>?_
 obtain ⟨rfl,q6,hD5⟩:=h
 obtain ⟨b5,hbl5,hbb5,-,-,hrow5⟩:=hD5
 obtain ⟨s5,hs5⟩:∃ z,z=absorb S0 (padT t) ((padT t).length/64):=⟨_,rfl⟩
 rw [show t++QfO t.length=padT t from rfl,←hs5] at hrow5
 replace hrow5:W6.heap[g10]? = some (.cells (cat [ints .u32 ([wv s5.a,wv s5.b,wv s5.c,wv s5.d,wv s5.e,wv s5.f,wv s5.g,wv s5.h]),ints .u8 (b5),#[.int .i64 (((padT t).length:Nat):Int)]]) 114):=hrow5
 refine sgN hK11 <| wp_seq_k fun K13 hK13=>sgC fun K14 hK14=>sg 1 kj <| Qac (.agg (ints .u32 ([wv s5.a,wv s5.b,wv s5.c,wv s5.d,wv s5.e,wv s5.f,wv s5.g,wv s5.h]))) 21 rfl kj (Qan 111 _ g10 0 114 _ _ _ hrow5 rfl kj (Qaq [] [ints .u32 ([wv s5.a,wv s5.b,wv s5.c,wv s5.d,wv s5.e,wv s5.f,wv s5.g,wv s5.h])] [ints .u8 (b5),#[.int .i64 (((padT t).length:Nat):Int)]] 0 kj) kj (isz (n:=8) kj kj)) <| sg 1 kj <| sgN hK14 <| wp_block <| QaT (fun (s1:Nat)=>[(2,.pointer (some ⟨g4,0,none⟩)),(3,.pointer (some ⟨g6,0,none⟩)),(21,.agg (ints .u32 ([wv s5.a,wv s5.b,wv s5.c,wv s5.d,wv s5.e,wv s5.f,wv s5.g,wv s5.h]))),(22,.int .i64 ((s1:Nat):Int))]) (fun (s1:Nat) W=>(s1≤8)∧(W.heap[g6]? = some (.cells (ints .u8 (fill s5.out 32 (4*s1))) 35))∧(Qa0 [g6] W6 W)∧(Ext w W)) (fun (s1:Nat)=>8-s1) 0 ⟨kj,kj,kj,kj,trivial⟩ ⟨(zal _),(QaG (zbx q6 (Qaa (rpn p4 r6_2 e3 l10) e5) (Qad r6_2 l10)) (Qev s5.out 32).symm),(zbz [g6] W6),(ExtB.up (zbv (zbu p4 (zbv x2 e3) b10) e5) q6 b10)⟩ fun s1 X1 V1 hI1=>?_
 obtain ⟨i,hs1⟩:∃ z,z=s1:=⟨_,rfl⟩
 subst hs1
 obtain ⟨hi,q6_1,kk1,xx1⟩:=hI1
 replace hi:i≤8:=hi
 replace q6_1:V1.heap[g6]? = some (.cells (ints .u8 (fill s5.out 32 (4*i))) 35):=q6_1
 replace kk1:Qa0 [g6] W6 V1:=kk1
 replace xx1:Ext w V1:=xx1
 have q7:=kk1
 refine sgB kj <| wp_seq_k fun K16 hK16=>QaC (t:=decide (((i:Nat):Int)<8)) kj (fun c17=>?_) (fun c17=>?_)
 ·skip
  have hlt23:i<8:=by have:=of_decide_eq_true c17; omega
  refine wp_skip <| hK16 _ _ <| wp_seq_k fun K18 hK18=>wp_block <| sgC fun K19 hK19=>sg 1 kj <| Qac (.int .u32 (wv (wget s5.l i))) 25 rfl kj (QaB 111 _ _ .i64 .u32 ([wv s5.a,wv s5.b,wv s5.c,wv s5.d,wv s5.e,wv s5.f,wv s5.g,wv s5.h]) i 8 110 (wv (wget s5.l i)) rfl kj kj kj kj kj rfl (by omega) (show nth (s5.l.map wv) i=_ from Qc6 _ _)) <| sg 2 kj <| sgN hK19 <| sgB kj ?_
  refine wp_block <| QaT (fun (s2:Nat)=>[(2,.pointer (some ⟨g4,0,none⟩)),(3,.pointer (some ⟨g6,0,none⟩)),(5,.int .i64 ((i:Nat):Int)),(6,.int .u32 (wv (wget s5.l i))),(21,.agg (ints .u32 ([wv s5.a,wv s5.b,wv s5.c,wv s5.d,wv s5.e,wv s5.f,wv s5.g,wv s5.h]))),(22,.int .i64 ((i:Nat):Int)),(26,.int .i64 ((s2:Nat):Int))]) (fun (s2:Nat) W=>(s2≤4)∧(W.heap[g6]? = some (.cells (ints .u8 (fill s5.out 32 (4*i+s2))) 35))∧(Qa0 [g6] V1 W)∧(Ext w W)) (fun (s2:Nat)=>4-s2) 0 ⟨kj,kj,kj,kj,kj,kj,kj,trivial⟩ ⟨(zal _),(QaG q6_1 (show _=fill s5.out 32 (4*i+0) from rfl)),(zbz [g6] V1),xx1⟩ fun s2 X2 V2 hI2=>?_
  obtain ⟨j,hs2⟩:∃ z,z=s2:=⟨_,rfl⟩
  subst hs2
  obtain ⟨hj,q6_2,kk2,xx2⟩:=hI2
  replace hj:j≤4:=hj
  replace q6_2:V2.heap[g6]? = some (.cells (ints .u8 (fill s5.out 32 (4*i+j))) 35):=q6_2
  replace kk2:Qa0 [g6] V1 V2:=kk2
  replace xx2:Ext w V2:=xx2
  have q8:=kk2
  refine sgB kj <| wp_seq_k fun K22 hK22=>QaC (t:=decide (((j:Nat):Int)<4)) kj (fun c23=>?_) (fun c23=>?_)
  ·skip
   have hlt27:j<4:=by have:=of_decide_eq_true c23; omega
   refine wp_skip <| hK22 _ _ <| wp_seq_k fun K24 hK24=>wp_block <| sgB kj <| Qao <| sg 1 kj <| Qac (.int .i64 ((4*i:Nat):Int)) 30 rfl kj (Qam (u:=.int .i64 (zao.wrap (4*((i:Nat):Int)))) kj (congrArg (zam .i64) (i64n _ _ (by omega) (by omega)))) <| sg 1 kj <| Qac (.int .i64 (((4*i)+j:Nat):Int)) 32 rfl kj (Qam (u:=.int .i64 (zao.wrap (((4*i:Nat):Int)+((j:Nat):Int)))) kj (congrArg (zam .i64) (i64n _ _ (by omega) (by omega)))) ?_
   refine sg 2 kj <| Qac (.int .i64 ((8*j:Nat):Int)) 35 rfl kj (Qam (u:=.int .i64 (zao.wrap (8*((j:Nat):Int)))) kj (congrArg (zam .i64) (i64n _ _ (by omega) (by omega)))) <| Qac (.int .i64 (((24-8*j:Nat):Int))) 36 rfl kj (Qam (u:=.int .i64 (zao.wrap (24-((8*j:Nat):Int)))) kj (congrArg (zam .i64) (i64n _ _ (by omega) (by omega)))) <| Qac (.int .u32 (wv (wget s5.l i>>>(24-8*j)))) 37 rfl kj (Qbu .shr _ _ _ _ .u32 .i64 _ _ _ rfl kj kj (QdS _ _ _ _ _ _ (by omega) (Qk0 _ _ (24-8*j) rfl (by omega)))) <| Qac (.int .u8 (nth s5.out (4*i+j))) 38 rfl kj (Qam (u:=.int .u8 (zaE.wrap (wv (wget s5.l i>>>(24-8*j))))) kj (congrArg (zam .u8) (out_byte s5 hlt23 hlt27))) <| Qac (.pointer (some ⟨g6,(4*i)+j,none⟩)) 39 rfl kj (Qa8 _ _ _ .i64 ((4*i)+j) _ 32 5 rfl kj kj kj kj (by omega)) <| Qai g6 _ (ints .u8 ((fill s5.out 32 (4*i+j)).set ((4*i)+j) (nth s5.out (4*i+j)))) 35 q6_2 rfl kj (Qa1 5 _ _ g6 ((4*i)+j) 35 _ _ q6_2 rfl kj kj kj (zan (by omega) (QbX (show s5.out.length=32 from rfl) (by omega)).symm)) fun W9 p9 r6_9=>Qaz <| hK24 _ _ <| Qao ?_
   refine Qac (.int .i64 ((j+1:Nat):Int)) 40 rfl kj (Qam (u:=.int .i64 (zao.wrap (((j:Nat):Int)+1))) kj (congrArg (zam .i64) (i64n _ _ (by omega) (by omega)))) <| sg 1 kj <| Qaz ?_
   repeat (first | with_reducible refine goX1 ?_ | with_reducible refine goX2 ?_ | with_reducible refine goX3 ?_)
   exact QaL (j+1) ⟨kj,kj,kj,kj,kj,kj,kj,trivial⟩ ⟨(by omega),(QaG r6_9 (Qdq (show s5.out.length=32 from rfl) (by omega))),(zb2 q8 p9 (.inl (by simp))),(zbu p9 xx2 (qT x1.size l6))⟩ (by show 4-(j+1)<4-j; omega)
  ·skip
   have heq27:j=4:=by have:=of_decide_eq_false c23; omega
   have r6_8_26:V2.heap[g6]? = some (.cells (ints .u8 (fill s5.out 32 (4*(i+1)))) 35):=QaG q6_2 (by rw [heq27]; rfl)
   refine wp_exit <| hK18 _ _ <| Qao <| Qac (.int .i64 ((i+1:Nat):Int)) 41 rfl kj (Qam (u:=.int .i64 (zao.wrap (((i:Nat):Int)+1))) kj (congrArg (zam .i64) (i64n _ _ (by omega) (by omega)))) <| sg 1 kj <| Qaz ?_
   repeat (first | with_reducible refine goX1 ?_ | with_reducible refine goX2 ?_ | with_reducible refine goX3 ?_)
   exact QaL (i+1) ⟨kj,kj,kj,kj,trivial⟩ ⟨(by omega),r6_8_26,(Qa0.keeps q7 q8 (Qh0 (.inl (by simp)) QjR)),xx2⟩ (by show 8-(i+1)<8-i; omega)
 ·skip
  have heq23:i=8:=by have:=of_decide_eq_false c17; omega
  have r6_7_27:V1.heap[g6]? = some (.cells (ints .u8 (s5.out)) 35):=QaG q6_1 (by rw [heq23]; exact QdQ (show s5.out.length=32 from rfl))
  refine wp_exit <| hK13 _ _ <| sgC fun K28 hK28=>Qac (.agg (ints .u8 (s5.out))) 42 rfl kj (Qae 35 _ g6 35 _ _ r6_7_27 rfl kj kj (isz (n:=32) kj (izT (show s5.out.length=32 from rfl)))) ?_
  have r4_2:=(Qaa r4_1 e2)
  have r4_7:=(zb0 q7 (zbx q6 (Qaa (rpn p4 r4_2 e3 l10) e5) (Qad r4_2 l10)) (Qbd (Qad r4_1 l6) Qbr))
  refine Qai g4 _ (ints .u8 (s5.out)) 35 r4_7 rfl kj (Qag 35 _ _ g4 35 _ _ r4_7 rfl kj kj (isz (n:=32) kj (izT (show s5.out.length=32 from rfl))) (eqsz (n:=32) (izT (qZ (n:=32))) (izT (show s5.out.length=32 from rfl))) (ints_one _ _)) fun W8 p8 r4_8=>sgN hK28 <| wp_ret ?_
  repeat (first | with_reducible refine goR1 ?_ | with_reducible refine goR2 ?_)
  exact (show bodyPost _ _ _ .ret _ _ from ret1 (.agg (ints .u8 (s5.out))) rfl (QaU g4 35 _ r4_8 kj kj (isz (n:=32) kj (izT (show s5.out.length=32 from rfl)))) ⟨by rw [show dig t=s5.out by rw [hs5]; rfl],(zbu p8 xx1 (qT (zbr w).size l4))⟩)
end Sha
end
section
namespace Sha
open Go Go.RowKit
open Rely Auto Own
def pat (ps : List (Value×List Int)) (i:Nat):Value×List Int:=ps.getD i (undef,[])
def flat (ps : List (Value×List Int)) (i:Nat):List Int:=((ps.take i).map Prod.snd).flatten
theorem QlI {ps : List (Value×List Int)} {i:Nat} (h:i<ps.length):pat ps i=ps[i]:=by simp [pat,h]
theorem Qfy {ps : List (Value×List Int)} {i:Nat} (h:i<ps.length):pat ps i∈ps:=by rw [QlI h]; exact zaK h
theorem QlH {ps : List (Value×List Int)} {i:Nat} (h:i<ps.length):(ps.map Prod.fst).toArray[i]? = some (pat ps i).1:=by
  rw [QlI h]; simp [h]
theorem Qfh {ps : List (Value×List Int)} {i:Nat} (h:i<ps.length):flat ps (i+1)=flat ps i++(pat ps i).2:=by
  unfold flat
  rw [zaL,zaM h,QlI h,zaz,zaN]
  show _++[ps[i].2].flatten=_
  rw [List.flatten_singleton]
theorem QdP {ps : List (Value×List Int)} {n:Nat} (h:ps.length=n):flat ps n=(ps.map Prod.snd).flatten:=by
  subst h; simp [flat]
theorem Qjw {ps : List (Value×List Int)} {i:Nat} (h:i<ps.length):(flat ps i).length+(pat ps i).2.length≤((ps.map Prod.snd).flatten).length:=by
  have e:(flat ps (i+1)).length=(flat ps i).length+(pat ps i).2.length:=by rw [Qfh h,zas]
  rw [←e]
  have:(ps.map Prod.snd).flatten=flat ps (i+1)++((ps.drop (i+1)).map Prod.snd).flatten:=by
    unfold flat
    rw [←zaN,←zaz,zaO]
  rw [this,zas]; omega
theorem Qpd (s : S8):s.out.length=32:=rfl
theorem QaV (t : List Int):(dig t).length=32:=Qpd _
theorem Qlv (gp n:Nat) (Tp:TypeId) (ps:List (Value×List Int)) (hn:ps.length=n) (hn9:n≤1000000) (tc tq:TypeId) (w:World) (hc:w.heap[1]? = some (.cells (ints .u64 QbI) tc)) (hq:w.heap[0]? = some (.cells (ints .u64 Qbf) tq)) (hrow:w.heap[gp]? = some (.cells (ps.map Prod.fst).toArray Tp)) (hps:∀ p∈ps,RdK .u8 w.heap.size p.2 p.1 w∧Qaf p.2) (hlen:((ps.map Prod.snd).flatten).length≤900000000):Calls Tryz.prog 41 #[.slice (some ⟨gp,0,none⟩) n n] w (Ret w (.agg (ints .u8 (dig ((ps.map Prod.snd).flatten))))):=by
 refine enter 19 [(0,.slice (some ⟨gp,0,none⟩) n n)] Tryz.func41 rfl rfl kj rfl <| sgC fun K4 hK4=>Qak (ints .u8 (zae 32 0)) 35 2 rfl kj kj fun g5 W1 l5 e1 r5_1=>?_
 have x1:=zbv (zbr w) e1
 refine sgN hK4 <| sgC fun K6 hK6=>Qaw (fun v W'=>(fun v W=>∃ g,v=.pointer (some ⟨g,0,none⟩)∧W1.heap.size≤g∧HasD g [] W) v W'∧Ext W1 W') 42 #[] 6 rfl kj kj ((newC tq _ (Qaa hq e1)).mono (by rintro e w' ⟨v,rfl,e1,hv⟩; exact ⟨v,rfl,hv,e1⟩)) fun vv7 W2 hh7=>?_
 obtain ⟨hv7,e2⟩:=hh7
 obtain ⟨gd8,rfl,ld8,hD8⟩:=hv7
 have b8:=qT x1.size ld8
 refine sg 1 kj <| sgN hK6 <| wp_seq_k fun K9 hK9=>sgB kj <| wp_block <| QaT (fun (s1:Nat)=>[(7,.slice (some ⟨gp,0,none⟩) n n),(8,.int .i64 ((n:Nat):Int)),(9,.int .i64 ((s1:Nat):Int)),(3,.pointer (some ⟨gd8,0,none⟩)),(2,.pointer (some ⟨g5,0,none⟩))]) (fun (s1:Nat) W=>(s1≤n)∧(HasD gd8 (flat ps s1) W)∧(Qa0 [gd8] W2 W)∧(Ext w W)) (fun (s1:Nat)=>n-s1) 0 ⟨kj,kj,kj,kj,kj,trivial⟩ ⟨(zal _),(show HasD _ (flat ps 0) _ from hD8),(zbz [gd8] W2),(zbv x1 e2)⟩ fun s1 X1 V1 hI1=>?_
 obtain ⟨i,hs1⟩:∃ z,z=s1:=⟨_,rfl⟩
 subst hs1
 obtain ⟨hi,hDi,kk1,xx1⟩:=hI1
 replace hi:i≤n:=hi
 replace hDi:HasD gd8 (flat ps i) V1:=hDi
 replace kk1:Qa0 [gd8] W2 V1:=kk1
 replace xx1:Ext w V1:=xx1
 have q3:=kk1
 refine sgB kj <| wp_seq_k fun K12 hK12=>QaC (t:=decide (((i:Nat):Int)<((n:Nat):Int))) kj (fun c13=>?_) (fun c13=>?_)
 ·skip
  have hlt10:i<n:=by have:=of_decide_eq_true c13; omega
  refine wp_skip <| hK12 _ _ <| wp_seq_k fun K14 hK14=>wp_block <| sgC fun K15 hK15=>?_
  have hi2:i<ps.length:=by omega
  refine Qac (.pointer (some ⟨gp,i,none⟩)) 11 rfl kj (QbN 93 _ _ .i64 i gp n n 24 rfl kj kj kj kj hlt10) ?_
  have r3_1:=(Qaa hrow e1)
  refine Qac ((pat ps i).1) 12 rfl kj (Qb5 24 _ _ ((pat ps i).1) (QaO (zb0 q3 (Qaa r3_1 e2) (Qbd (Qad r3_1 ld8) Qbr)) (QlH hi2)) rfl kj kj) <| sg 1 kj <| sgN hK15 <| Qao <| sg 2 kj ?_
  have r1_1:=(Qaa hc e1)
  have r1_2:=(Qaa r1_1 e2)
  have r1_3:=(zb0 q3 r1_2 (Qbd (Qad r1_1 ld8) Qbr))
  have hp6:=(hps _ (Qfy hi2)).1.ext xx1
  have hl6:=Qjw hi2
  refine Qaw (fun v W'=>v=.tuple #[]∧ExtB gd8 V1 W'∧HasD gd8 ((flat ps i)++(pat ps i).2) W') 43 #[.pointer (some ⟨gd8,0,none⟩),(pat ps i).1] 15 rfl kj kj ((addC gd8 _ _ _ _ tc _ r1_3 (zaP (qL (Qa7 hc) b8)) (hp6.nb b8) (hps _ (Qfy hi2)).2 (by omega) hDi hp6).mono fun e w' h=>⟨_,h.1,rfl,h.2⟩) fun v W4 h=>?_
  obtain ⟨rfl,q4,hDn⟩:=h
  have x4:=ExtB.up xx1 q4 b8
  refine Qaz <| hK14 _ _ <| Qao <| Qac (.int .i64 ((i+1:Nat):Int)) 16 rfl kj (Qam (u:=.int .i64 (zao.wrap (((i:Nat):Int)+1))) kj (congrArg (zam .i64) (i64n _ _ (by omega) (by omega)))) <| sg 1 kj <| Qaz ?_
  repeat (first | with_reducible refine goX1 ?_ | with_reducible refine goX2 ?_ | with_reducible refine goX3 ?_)
  exact QaL (i+1) ⟨kj,kj,kj,kj,kj,trivial⟩ ⟨(by omega),(by rw [Qfh hi2]; exact hDn),(Qa0.but q3 q4 (.inl (by simp))),x4⟩ (by omega)
 ·skip
  have heq10:i=n:=by have:=of_decide_eq_false c13; omega
  refine wp_exit <| hK9 _ _ <| sgC fun K16 hK16=>sg 1 kj ?_
  have r1_1:=(Qaa hc e1)
  have r1_2:=(Qaa r1_1 e2)
  have r1_3:=(zb0 q3 r1_2 (Qbd (Qad r1_1 ld8) Qbr))
  refine Qas (.agg (ints .u8 (dig (flat ps i)))) 44 #[.pointer (some ⟨gd8,0,none⟩)] 18 rfl kj kj (sumC gd8 _ tc _ r1_3 (by rw [heq10,QdP hn]; exact hlen) hDi) fun W4 e4=>?_
  have x4:=zbv xx1 e4
  have r5_4:=(Qaa (zb0 q3 (Qaa r5_1 e2) (Qbd (Qad r5_1 ld8) Qbr)) e4)
  refine Qai g5 _ (ints .u8 (dig (flat ps i))) 35 r5_4 rfl kj (Qag 35 _ _ g5 35 _ _ r5_4 rfl kj kj (isz (n:=32) kj (izT (QaV _))) (eqsz (n:=32) (izT (qZ (n:=32))) (izT (QaV _))) (ints_one _ _)) fun W5 p5 r5_5=>sgN hK16 <| wp_ret ?_
  repeat (first | with_reducible refine goR1 ?_ | with_reducible refine goR2 ?_)
  exact (show bodyPost _ _ _ .ret _ _ from ret1 (.agg (ints .u8 (dig (flat ps i)))) rfl (QaU g5 35 _ r5_5 kj kj (isz (n:=32) kj (izT (QaV _)))) ⟨by rw [heq10,QdP hn],(zbu p5 x4 (qT (zbr w).size l5))⟩)
end Sha
end
section
namespace Sha
open Go Go.RowKit
open Rely Auto Own
theorem Qlk (x : Wd):Qaf (wby x):=fun y hy=>by
  simp only [wby,zaI,zaJ,or_false] at hy
  rcases hy with h | h | h | h <;> omega
theorem Qbo (t : List Int):Qaf (dig t):=fun y hy=>by
  unfold dig S8.out at hy
  obtain ⟨x,_,h⟩:=List.mem_flatMap.1 hy
  exact Qlk x y h
def xorb (c x:Int):Int:=bits .xor .u8 x c
theorem Qlg (c x:Int):0≤xorb c x∧xorb c x≤255:=by
  unfold xorb bits
  have:∀ z:Int,zaE.wrap z=z%2^8:=fun _=>rfl
  rw [this]; omega
def keyL (key : List Int):List Int:=if 64<key.length then dig key else key
def keyB (key : List Int):List Int:=keyL key++zae (64-(keyL key).length) 0
def padX (c : Int) (key:List Int):List Int:=(keyB key).map (xorb c)
def hmac (key t:List Int):List Int:=dig (padX 92 key++dig (padX 54 key++t))
theorem Qn7 (key : List Int):(keyL key).length≤64:=by
  unfold keyL
  split
  · rw [QaV]; decide
  · omega
theorem Qc3 (key : List Int):(keyB key).length=64:=by
  have:=Qn7 key
  simp [keyB]; omega
theorem QaS (c : Int) (key:List Int):(padX c key).length=64:=by rw [padX,zad,Qc3]
theorem QgM (c : Int) (key:List Int):Qaf (padX c key):=fun y hy=>by
  obtain ⟨x,_,rfl⟩:=zaQ.1 hy
  exact Qlg c x
theorem QfX (c : Int) (key:List Int) {i:Nat} (h:i<64):nth (padX c key) i=bits .xor .u8 (nth (keyB key) i) c:=by
  have hl:=Qc3 key
  show nth ((keyB key).map (xorb c)) i=xorb c (nth (keyB key) i)
  simp [nth,zaR,show i<(keyB key).length by omega]
theorem QbT (key t:List Int):(hmac key t).length=32:=QaV _
theorem QgW (key t:List Int):Qaf (hmac key t):=Qbo _
def puts (xs ys:List Int) (m:Nat):List Int:=xs.take m++ys.drop m
theorem QjJ {xs ys:List Int} {n m:Nat} (hx:xs.length=n) (hy:ys.length=n) (hm:m≤n):(puts xs ys m).length=n:=by simp [puts]; omega
theorem Qih (xs ys:List Int):puts xs ys 0=ys:=by simp [puts]
theorem Qii {xs ys:List Int} {n:Nat} (hx:xs.length=n) (hy:ys.length=n):puts xs ys n=xs:=by
  unfold puts
  rw [zax (by omega),zaD (by omega),zaS]
theorem QjI {xs ys:List Int} {n m:Nat} (hx:xs.length=n) (hy:ys.length=n) (hm:m<n):(puts xs ys m).set m (nth xs m)=puts xs ys (m+1):=by
  unfold puts
  have hl:(xs.take m).length=m:=by rw [zat]; omega
  rw [zaH _ _ (by omega),hl,zaA,List.drop_eq_getElem_cons (by omega),zaG,zaL,zaM (by omega),za2]
  simp [nth,show m<xs.length by omega]
section
variable {ds : List Deferred} {P : Program} {ops : Array Oper} {Q : Exit → Act → World → Prop} {rest : List Oper} {o : Oper} {N : Nat} {L : Env} {W : World}
theorem QhW {k : IntKind} {e:TypeId} (x y:Operand) (tx ty:TypeId) (d:Nat) (ho:o.op=.call { callee:=.builtin .copy,args:=#[x,y],argTypes:=#[tx,ty] }) (hu:P.underlying tx=some (.slice e)) (hsz:(P.info? e).map (·.size)=some 1) (hd:o.dst=some d) (hgd:Qcd ops o N L=some true)
    {g off dl dc n B:Nat} {xs z:List Int} {v:Value} {T:TypeId} (hx:Rely.look (envN N L) x=.slice (some ⟨g,off,none⟩) dl dc) (hy:Rely.look (envN N L) y=v) (hr:RdK k B z v W)
    (hg:W.heap[g]? = some (.cells (ints k xs) T)) (hq:off+dl≤xs.length) (hn:n=min z.length dl)
    (kk:∀ W':World,Puts W g W'→W'.heap[g]? = some (.cells (ints k (xs.take off++z.take n++xs.drop (off+n))) T)→WL P ops Q rest (Qau ds N ((d,.int .i64 ((n:Nat):Int))::L)) W'):WL P ops Q (o::rest) (Qau ds N L) W:=by
  obtain ⟨a,cap,rfl,y2,y3,y4,y5⟩:=hr
  have hgo:∀ W',(Builtin.copy_ #[tx,ty] o.type #[.slice (some ⟨g,off,none⟩) dl dc,.slice a z.length cap]).run P W=.ok (goInt n) W'→(execOp (Rely.look (envN N L)) o).run P W=.ok (.value (.int .i64 ((n:Nat):Int))) W':=fun W' h=>by
    unfold execOp
    simp only [ho,resolve,invoke,builtin,za3,za4,za5,za6,za7,za8,hx,hy,h,goInt]
  rcases zaT n with h0 | h0
  · refine Qcs _ _ d hd hgd (hgo W ?_) (kk W ⟨rfl,rfl,rfl,rfl,fun _ _=>rfl⟩ ?_)
    · rw [h0]; exact run_copy_none W tx ty o.type e _ _ _ _ _ _ hu hsz (hn.symm.trans h0)
    · rw [h0,zag,zaS,Nat.add_zero,zaO]; exact hg
  · obtain ⟨gz,oz,rfl,z2,z3,z4⟩:=y5.resolve_left (fun e=>by rw [e] at hn; simp at hn; omega)
    have hlen:((z.take n).map (zam k)).length=n:=by simp; omega
    have h:=run_copy_row (P:=P) W tx ty o.type e g off dl dc ⟨gz,oz,none⟩ z.length cap (ints k xs) T ((z.take n).map (zam k)) hu hsz hg (by rw [hlen]; exact hn)
      (Qir (k:=k) (ys:=z.take n) fun i hi=>by
        rw [zat] at hi
        rw [z4 i (by omega)]
        simp [nth,show i<n by omega]) (by rw [hlen,QaD]; omega) (QkG k _)
    rw [hlen] at h
    have e1:((ints k xs).toList.take off++(z.take n).map (zam k)++(ints k xs).toList.drop (off+n)).toArray=ints k (xs.take off++z.take n++xs.drop (off+n)):=by
      apply zay
      show (xs.map (zam k)).take off++(z.take n).map (zam k)++(xs.map (zam k)).drop (off+n)=(xs.take off++z.take n++xs.drop (off+n)).map (zam k)
      simp only [zaz,za0,za1]
    rw [e1] at h
    exact Qcs _ _ d hd hgd (hgo _ h) (kk _ (QbO _ _ _) (setRow_heap _ _ _ _ _ _ hg))
end
theorem Qmg {key : List Int} (h:64<key.length):(zae 64 (0:Int)).take 0++(dig key).take 32++(zae 64 (0:Int)).drop (0+32)=keyB key:=by
  have hd:=QaV key
  unfold keyB keyL
  rw [if_pos h,hd,zag,zaj,zax (by omega),zaU]
theorem QkR {key : List Int} (h:¬ 64<key.length) (n:Nat) (hn:n=min key.length 64):(zae 64 (0:Int)).take 0++key.take n++(zae 64 (0:Int)).drop (0+n)=keyB key:=by
  unfold keyB keyL
  rw [if_neg h,zag,zaj,zax (by omega),zaU,show 64-(0+n)=64-key.length by omega]
end Sha
end
section
namespace Sha
open Go Go.RowKit
open Rely Auto Own
theorem Qrh (key : List Int) (v:Value) (B:Nat) (tc tq:TypeId) (w:World) (hc:w.heap[1]? = some (.cells (ints .u64 QbI) tc)) (hq:w.heap[0]? = some (.cells (ints .u64 Qbf) tq)) (hkb:Qaf key) (hkl:key.length≤800000000) (hk:RdK .u8 B key v w) :
  Calls Tryz.prog 128 #[v] w (Ret w (.tuple #[.agg (ints .u8 (padX 54 key)),.agg (ints .u8 (padX 92 key))])):=by
 obtain ⟨a_key,c_key,rfl,-⟩:=id hk
 refine enter 35 [(0,.slice a_key key.length c_key)] Tryz.func128 rfl rfl kj rfl <| sgC fun K3 hK3=>Qak (ints .u8 (zae 64 0)) 112 2 rfl kj kj fun g4 W1 l4 e1 r4_1=>?_
 have x1:=zbv (zbr w) e1
 have b4:=qT (zbr w).size l4
 refine Qak (ints .u8 (zae 64 0)) 112 3 rfl kj kj fun g5 W2 l5 e2 r5_2=>?_
 have x2:=zbv x1 e2
 have b5:=qT x1.size l5
 refine sgN hK3 <| wp_seq_k fun K6 hK6=>sgB kj <| QaC (t:=decide (((key.length:Nat):Int)>64)) kj (fun c8=>?_) (fun c8=>?_)
 ·skip
  have hlong:64<key.length:=by have:=of_decide_eq_true c8; omega
  refine sgC fun K9 hK9=>sg 1 kj <| QbM (#[.slice a_key key.length c_key]) 24 1 11 rfl kj kj fun g10 W3 l10 e3 r10_3=>?_
  have x3:=zbv x2 e3
  have b10:=qT x2.size l10
  have hps11:∀ p∈([(.slice a_key key.length c_key,key)]:List (Value×List Int)),RdK .u8 W3.heap.size p.2 p.1 W3∧Qaf p.2:=by
   intro p hp
   simp only [zaI,zaJ,or_false] at hp
   rcases hp with rfl
   ·exact ⟨zb3 (zby hk x3),hkb⟩
  have hsh11:=Qlv g10 1 _ ([(.slice a_key key.length c_key,key)]:List (Value×List Int)) rfl (by decide) tc tq W3 (Qaa (Qaa (Qaa hc e1) e2) e3) (Qaa (Qaa (Qaa hq e1) e2) e3) r10_3 hps11 (by simp only [za7,za8,zaV,zaW,zaS,zas]; omega)
  rw [show ((zaX Prod.snd ([(.slice a_key key.length c_key,key)]:List (Value×List Int))).flatten)=key by simp only [za7,za8,zaV,zaW,zaS]] at hsh11
  refine Qas (.agg (ints .u8 (dig (key)))) 41 #[.slice (some ⟨g10,0,none⟩) 1 1] 12 rfl kj kj hsh11 fun W4 e4=>?_
  have x4:=zbv x3 e4
  refine Qak (ints .u8 (zae 32 0)) 35 4 rfl kj kj fun g12 W5 l12 e5 r12_5=>?_
  have x5:=zbv x4 e5
  refine Qai g12 _ (ints .u8 (dig (key))) 35 r12_5 rfl kj (Qag 35 _ _ g12 35 _ _ r12_5 rfl kj kj (isz (n:=32) kj (izT (QaV _))) (eqsz (n:=32) (izT (qZ (n:=32))) (izT (QaV _))) (ints_one _ _)) fun W6 p6 r12_6=>?_
  have x6:=zbu p6 x5 (qT x4.size l12)
  refine sgN hK9 <| Qba 2 [⟨none,[(2,none)]⟩,⟨none,[(4,none)]⟩] kj kj fun F hF=>Qa6 (Qar _) (.slice (some ⟨g4,0,none⟩) 64 64) kj kj (fun _=>kj) <| Qa6 (Qar _) (.slice (some ⟨g12,0,none⟩) 32 32) kj kj (fun _=>kj) <| Qdr (hF _ fun W7 e7=>?_)
  simp only [zaj,zak,zaf,zag,zah,zai,finE,up]
  clear hF
  have x7:=zbv x6 e7
  have r4_2:=(Qaa r4_1 e2)
  have r4_3:=(Qaa r4_2 e3)
  have r4_4:=(Qaa r4_3 e4)
  have r4_5:=(Qaa r4_4 e5)
  have r4_6:=(zbt p6 r4_5 (Qad r4_4 l12))
  have r4_7:=(Qaa r4_6 e7)
  have r12_7:=(Qaa r12_6 e7)
  refine QhW (k:=.u8) (e:=5) (z:=dig (key)) (.tmp 13) (.tmp 14) 24 24 15 rfl kj kj rfl kj (off:=0) (dl:=64) (dc:=64) (n:=32) (xs:=zae 64 0) kj kj (Qb8 (xs:=dig (key)) (n:=32) (QaV _) r12_7 (Qa7 r12_7) (show 32≤maxLen from by decide)) r4_7 (qT (show 0+(64)≤64 from (by omega)) (qE (qZ (n:=64)).symm)) (by rw [QaV]; rfl) fun W8 p8 r4_8=>?_
  refine Qaz <| hK6 _ _ <| wp_seq_k fun K13 hK13=>sgC fun K14 hK14=>?_
  have r4_8_15:W8.heap[g4]? = some (.cells (ints .u8 (keyB key)) 112):=QaG r4_8 (Qmg hlong)
  refine Qac (.agg (ints .u8 (keyB key))) 19 rfl kj (Qae 112 _ g4 112 _ _ r4_8_15 rfl kj kj (isz (n:=64) kj (izT (Qc3 key)))) <| sg 1 kj <| sgN hK14 <| wp_block ?_
  have n_4_5:g4≠g5:=(Qad r4_1 l5)
  have n_5_4:g5≠g4:=(Qap r4_1 l5)
  have r5_3:=(Qaa r5_2 e3)
  have r5_4:=(Qaa r5_3 e4)
  have r5_5:=(Qaa r5_4 e5)
  have r5_6:=(zbt p6 r5_5 (Qad r5_4 l12))
  have r5_7:=(Qaa r5_6 e7)
  refine QaT (fun (s1:Nat)=>[(2,.pointer (some ⟨g4,0,none⟩)),(3,.pointer (some ⟨g5,0,none⟩)),(19,.agg (ints .u8 (keyB key))),(20,.int .i64 ((s1:Nat):Int))]) (fun (s1:Nat) W=>(s1≤64)∧(W.heap[g4]? = some (.cells (ints .u8 (puts (padX 54 key) (keyB key) s1)) 112))∧(W.heap[g5]? = some (.cells (ints .u8 (fill (padX 92 key) 64 s1)) 112))∧(Qa0 [g4,g5] W8 W)∧(Ext w W)) (fun (s1:Nat)=>64-s1) 0 ⟨kj,kj,kj,kj,trivial⟩ ⟨(zal _),(QaG r4_8_15 (Qih _ _).symm),(QaG (zbt p8 r5_7 n_5_4) (Qev _ 64).symm),(zbz [g4,g5] W8),(zbu p8 x7 b4)⟩ fun s1 X1 V1 hI1=>?_
  obtain ⟨i,hs1⟩:∃ z,z=s1:=⟨_,rfl⟩
  subst hs1
  obtain ⟨hi,q4_1,q5_1,kk1,xx1⟩:=hI1
  replace hi:i≤64:=hi
  replace q4_1:V1.heap[g4]? = some (.cells (ints .u8 (puts (padX 54 key) (keyB key) i)) 112):=q4_1
  replace q5_1:V1.heap[g5]? = some (.cells (ints .u8 (fill (padX 92 key) 64 i)) 112):=q5_1
  replace kk1:Qa0 [g4,g5] W8 V1:=kk1
  replace xx1:Ext w V1:=xx1
  have q9:=kk1
  refine sgB kj <| wp_seq_k fun K17 hK17=>QaC (t:=decide (((i:Nat):Int)<64)) kj (fun c18=>?_) (fun c18=>?_)
  ·skip
   have hlt21:i<64:=by have:=of_decide_eq_true c18; omega
   refine wp_skip <| hK17 _ _ <| wp_seq_k fun K19 hK19=>wp_block <| sgC fun K20 hK20=>sg 1 kj <| Qac (.int .u8 (nth (keyB key) i)) 23 rfl kj (QaB 112 _ _ .i64 .u8 (keyB key) i 64 5 (nth (keyB key) i) rfl kj kj kj kj kj (Qc3 key) (by omega) rfl) <| sg 2 kj <| sgN hK20 <| Qao ?_
   refine sg 3 kj <| Qac (.int .u8 (nth (padX 54 key) i)) 27 rfl kj (Qam (u:=.int .u8 (bits .xor .u8 ((nth (keyB key) i)) (54))) kj (congrArg (zam .u8) (QfX 54 key hlt21).symm)) <| sg 1 kj <| Qac (.int .u8 (nth (padX 92 key) i)) 29 rfl kj (Qam (u:=.int .u8 (bits .xor .u8 ((nth (keyB key) i)) (92))) kj (congrArg (zam .u8) (QfX 92 key hlt21).symm)) <| Qac (.pointer (some ⟨g4,i,none⟩)) 30 rfl kj (Qa8 _ _ _ .i64 (i) _ 64 5 rfl kj kj kj kj (by omega)) <| Qai g4 _ (ints .u8 ((puts (padX 54 key) (keyB key) i).set i (nth (padX 54 key) i))) 112 q4_1 rfl kj (Qa1 5 _ _ g4 i 112 _ _ q4_1 rfl kj kj kj (zan (by omega) (QjJ (QaS 54 key) (Qc3 key) (by omega)).symm)) fun W10 p10 r4_10=>?_
   have x10:=zbu p10 xx1 b4
   refine Qac (.pointer (some ⟨g5,i,none⟩)) 31 rfl kj (Qa8 _ _ _ .i64 (i) _ 64 5 rfl kj kj kj kj (by omega)) ?_
   have r5_10:=(zbt p10 q5_1 n_5_4)
   refine Qai g5 _ (ints .u8 ((fill (padX 92 key) 64 i).set i (nth (padX 92 key) i))) 112 r5_10 rfl kj (Qa1 5 _ _ g5 i 112 _ _ r5_10 rfl kj kj kj (zan (by omega) (QbX (QaS 92 key) (by omega)).symm)) fun W11 p11 r5_11=>?_
   have x11:=zbu p11 x10 b5
   refine Qaz <| hK19 _ _ <| Qao <| Qac (.int .i64 ((i+1:Nat):Int)) 32 rfl kj (Qam (u:=.int .i64 (zao.wrap (((i:Nat):Int)+1))) kj (congrArg (zam .i64) (i64n _ _ (by omega) (by omega)))) <| sg 1 kj <| Qaz ?_
   have r4_11:=(zbt p11 r4_10 n_4_5)
   repeat (first | with_reducible refine goX1 ?_ | with_reducible refine goX2 ?_ | with_reducible refine goX3 ?_)
   exact QaL (i+1) ⟨kj,kj,kj,kj,trivial⟩ ⟨(by omega),(QaG r4_11 (QjI (QaS 54 key) (Qc3 key) hlt21)),(QaG r5_11 (Qdq (QaS 92 key) hlt21)),(zb2 (zb2 q9 p10 (.inl (by simp))) p11 (.inl (by simp))),x11⟩ (by omega)
  ·skip
   have heq21:i=64:=by have:=of_decide_eq_false c18; omega
   have r4_9_21:V1.heap[g4]? = some (.cells (ints .u8 (padX 54 key)) 112):=QaG q4_1 (by rw [heq21]; exact Qii (QaS 54 key) (Qc3 key))
   have r5_9_22:V1.heap[g5]? = some (.cells (ints .u8 (padX 92 key)) 112):=QaG q5_1 (by rw [heq21]; exact QdQ (QaS 92 key))
   refine wp_exit <| hK13 _ _ <| wp_seq_k fun K23 hK23=>QbB (fun W=>W.heap[g5]? = some (.cells (ints .u8 (padX 92 key)) 112)) [⟨none,[(2,none)]⟩,⟨none,[(3,none)]⟩,⟨none,[(2,none),(33,some 0)]⟩,⟨none,[(3,none),(34,some 1)]⟩] [] [1] kj kj kj (fun W hR=>Qaa r5_9_22 hR) fun F hF=>Qbz (.agg (ints .u8 (padX 54 key))) kj kj kj rfl (fun W hR=>(Qae 112 _ g4 112 _ _ (Qaa (Qaa r4_9_21 (Qah _)) hR) rfl kj kj (isz (n:=64) kj (izT (QaS 54 key))))) <| QdH (.agg (ints .u8 (padX 92 key))) kj kj kj rfl (fun W hW=>(Qae 112 _ g5 112 _ _ hW rfl kj kj (isz (n:=64) kj (izT (QaS 92 key))))) <| Qb0 rfl <| Qb0 rfl <| QeY (hF _ kj fun W10 e10=>?_)
   simp only [zaj,zak,fins,up]
   clear hF
   have x10:=zbv xx1 e10
   have r4_10:=(Qaa r4_9_21 e10)
   have r5_10:=(Qaa r5_9_22 e10)
   refine Qbv _ g4 _ (ints .u8 (padX 54 key)) 112 r4_10 rfl (Qag 112 _ _ g4 112 _ _ r4_10 rfl kj kj (isz (n:=64) kj (izT (QaS 54 key))) (eqsz (n:=64) (izT (QaS 54 key)) (izT (QaS 54 key))) (ints_one _ _)) (fun W hp=>zbt hp r5_10 n_5_4) fun W11 p11 r4_11=>?_
   have x11:=zbu p11 x10 b4
   have r5_11:=(zbt p11 r5_10 n_5_4)
   refine QeX _ g5 _ (ints .u8 (padX 92 key)) 112 r5_11 rfl (Qag 112 _ _ g5 112 _ _ r5_11 rfl kj kj (isz (n:=64) kj (izT (QaS 92 key))) (eqsz (n:=64) (izT (QaS 92 key)) (izT (QaS 92 key))) (ints_one _ _)) (fun W hp hrw=>hrw) fun W12 p12 r5_12=>Qd8 <| hK23 _ _ <| wp_ret ?_
   repeat (first | with_reducible refine goR1 ?_ | with_reducible refine goR2 ?_)
   exact (show bodyPost _ _ _ .ret _ _ from ret2 (.agg (ints .u8 (padX 54 key))) (.agg (ints .u8 (padX 92 key))) rfl (QaU g4 112 _ (zbt p12 r4_11 n_4_5) kj kj (isz (n:=64) kj (izT (QaS 54 key)))) (QaU g5 112 _ r5_12 kj kj (isz (n:=64) kj (izT (QaS 92 key)))) ⟨rfl,(zbu p12 x11 b5)⟩)
 ·skip
  have hlong:¬ 64<key.length:=by have:=of_decide_eq_false c8; omega
  refine Qao <| sg 2 kj ?_
  have r4_2:=(Qaa r4_1 e2)
  refine QhW (k:=.u8) (e:=5) (z:=key) (.tmp 16) (.tmp 17) 24 24 18 rfl kj kj rfl kj (off:=0) (dl:=64) (dc:=64) (n:=(min key.length 64)) (xs:=zae 64 0) kj kj (zby hk x2) r4_2 (qT (show 0+(64)≤64 from (by omega)) (qE (qZ (n:=64)).symm)) rfl fun W3 p3 r4_3=>?_
  have x3:=zbu p3 x2 b4
  refine Qaz <| hK6 _ _ <| wp_seq_k fun K24 hK24=>sgC fun K25 hK25=>?_
  have r4_3_26:W3.heap[g4]? = some (.cells (ints .u8 (keyB key)) 112):=QaG r4_3 (QkR hlong _ rfl)
  refine Qac (.agg (ints .u8 (keyB key))) 19 rfl kj (Qae 112 _ g4 112 _ _ r4_3_26 rfl kj kj (isz (n:=64) kj (izT (Qc3 key)))) <| sg 1 kj <| sgN hK25 <| wp_block ?_
  have n_4_5:g4≠g5:=(Qad r4_1 l5)
  have n_5_4:g5≠g4:=(Qap r4_1 l5)
  have r5_3:=(zbt p3 r5_2 n_5_4)
  refine QaT (fun (s2:Nat)=>[(2,.pointer (some ⟨g4,0,none⟩)),(3,.pointer (some ⟨g5,0,none⟩)),(19,.agg (ints .u8 (keyB key))),(20,.int .i64 ((s2:Nat):Int))]) (fun (s2:Nat) W=>(s2≤64)∧(W.heap[g4]? = some (.cells (ints .u8 (puts (padX 54 key) (keyB key) s2)) 112))∧(W.heap[g5]? = some (.cells (ints .u8 (fill (padX 92 key) 64 s2)) 112))∧(Qa0 [g4,g5] W3 W)∧(Ext w W)) (fun (s2:Nat)=>64-s2) 0 ⟨kj,kj,kj,kj,trivial⟩ ⟨(zal _),(QaG r4_3_26 (Qih _ _).symm),(QaG r5_3 (Qev _ 64).symm),(zbz [g4,g5] W3),x3⟩ fun s2 X2 V2 hI2=>?_
  obtain ⟨i,hs2⟩:∃ z,z=s2:=⟨_,rfl⟩
  subst hs2
  obtain ⟨hi,q4_2,q5_2,kk2,xx2⟩:=hI2
  replace hi:i≤64:=hi
  replace q4_2:V2.heap[g4]? = some (.cells (ints .u8 (puts (padX 54 key) (keyB key) i)) 112):=q4_2
  replace q5_2:V2.heap[g5]? = some (.cells (ints .u8 (fill (padX 92 key) 64 i)) 112):=q5_2
  replace kk2:Qa0 [g4,g5] W3 V2:=kk2
  replace xx2:Ext w V2:=xx2
  have q4:=kk2
  refine sgB kj <| wp_seq_k fun K28 hK28=>QaC (t:=decide (((i:Nat):Int)<64)) kj (fun c29=>?_) (fun c29=>?_)
  ·skip
   have hlt21:i<64:=by have:=of_decide_eq_true c29; omega
   refine wp_skip <| hK28 _ _ <| wp_seq_k fun K30 hK30=>wp_block <| sgC fun K31 hK31=>sg 1 kj <| Qac (.int .u8 (nth (keyB key) i)) 23 rfl kj (QaB 112 _ _ .i64 .u8 (keyB key) i 64 5 (nth (keyB key) i) rfl kj kj kj kj kj (Qc3 key) (by omega) rfl) <| sg 2 kj <| sgN hK31 <| Qao ?_
   refine sg 3 kj <| Qac (.int .u8 (nth (padX 54 key) i)) 27 rfl kj (Qam (u:=.int .u8 (bits .xor .u8 ((nth (keyB key) i)) (54))) kj (congrArg (zam .u8) (QfX 54 key hlt21).symm)) <| sg 1 kj <| Qac (.int .u8 (nth (padX 92 key) i)) 29 rfl kj (Qam (u:=.int .u8 (bits .xor .u8 ((nth (keyB key) i)) (92))) kj (congrArg (zam .u8) (QfX 92 key hlt21).symm)) <| Qac (.pointer (some ⟨g4,i,none⟩)) 30 rfl kj (Qa8 _ _ _ .i64 (i) _ 64 5 rfl kj kj kj kj (by omega)) <| Qai g4 _ (ints .u8 ((puts (padX 54 key) (keyB key) i).set i (nth (padX 54 key) i))) 112 q4_2 rfl kj (Qa1 5 _ _ g4 i 112 _ _ q4_2 rfl kj kj kj (zan (by omega) (QjJ (QaS 54 key) (Qc3 key) (by omega)).symm)) fun W5 p5 r4_5=>?_
   have x5:=zbu p5 xx2 b4
   refine Qac (.pointer (some ⟨g5,i,none⟩)) 31 rfl kj (Qa8 _ _ _ .i64 (i) _ 64 5 rfl kj kj kj kj (by omega)) ?_
   have r5_5:=(zbt p5 q5_2 n_5_4)
   refine Qai g5 _ (ints .u8 ((fill (padX 92 key) 64 i).set i (nth (padX 92 key) i))) 112 r5_5 rfl kj (Qa1 5 _ _ g5 i 112 _ _ r5_5 rfl kj kj kj (zan (by omega) (QbX (QaS 92 key) (by omega)).symm)) fun W6 p6 r5_6=>?_
   have x6:=zbu p6 x5 b5
   refine Qaz <| hK30 _ _ <| Qao <| Qac (.int .i64 ((i+1:Nat):Int)) 32 rfl kj (Qam (u:=.int .i64 (zao.wrap (((i:Nat):Int)+1))) kj (congrArg (zam .i64) (i64n _ _ (by omega) (by omega)))) <| sg 1 kj <| Qaz ?_
   have r4_6:=(zbt p6 r4_5 n_4_5)
   repeat (first | with_reducible refine goX1 ?_ | with_reducible refine goX2 ?_ | with_reducible refine goX3 ?_)
   exact QaL (i+1) ⟨kj,kj,kj,kj,trivial⟩ ⟨(by omega),(QaG r4_6 (QjI (QaS 54 key) (Qc3 key) hlt21)),(QaG r5_6 (Qdq (QaS 92 key) hlt21)),(zb2 (zb2 q4 p5 (.inl (by simp))) p6 (.inl (by simp))),x6⟩ (by omega)
  ·skip
   have heq21:i=64:=by have:=of_decide_eq_false c29; omega
   have r4_4_32:V2.heap[g4]? = some (.cells (ints .u8 (padX 54 key)) 112):=QaG q4_2 (by rw [heq21]; exact Qii (QaS 54 key) (Qc3 key))
   have r5_4_33:V2.heap[g5]? = some (.cells (ints .u8 (padX 92 key)) 112):=QaG q5_2 (by rw [heq21]; exact QdQ (QaS 92 key))
   refine wp_exit <| hK24 _ _ <| wp_seq_k fun K34 hK34=>QbB (fun W=>W.heap[g5]? = some (.cells (ints .u8 (padX 92 key)) 112)) [⟨none,[(2,none)]⟩,⟨none,[(3,none)]⟩,⟨none,[(2,none),(33,some 0)]⟩,⟨none,[(3,none),(34,some 1)]⟩] [] [1] kj kj kj (fun W hR=>Qaa r5_4_33 hR) fun F hF=>Qbz (.agg (ints .u8 (padX 54 key))) kj kj kj rfl (fun W hR=>(Qae 112 _ g4 112 _ _ (Qaa (Qaa r4_4_32 (Qah _)) hR) rfl kj kj (isz (n:=64) kj (izT (QaS 54 key))))) <| QdH (.agg (ints .u8 (padX 92 key))) kj kj kj rfl (fun W hW=>(Qae 112 _ g5 112 _ _ hW rfl kj kj (isz (n:=64) kj (izT (QaS 92 key))))) <| Qb0 rfl <| Qb0 rfl <| QeY (hF _ kj fun W5 e5=>?_)
   simp only [zaj,zak,fins,up]
   clear hF
   have x5:=zbv xx2 e5
   have r4_5:=(Qaa r4_4_32 e5)
   have r5_5:=(Qaa r5_4_33 e5)
   refine Qbv _ g4 _ (ints .u8 (padX 54 key)) 112 r4_5 rfl (Qag 112 _ _ g4 112 _ _ r4_5 rfl kj kj (isz (n:=64) kj (izT (QaS 54 key))) (eqsz (n:=64) (izT (QaS 54 key)) (izT (QaS 54 key))) (ints_one _ _)) (fun W hp=>zbt hp r5_5 n_5_4) fun W6 p6 r4_6=>?_
   have x6:=zbu p6 x5 b4
   have r5_6:=(zbt p6 r5_5 n_5_4)
   refine QeX _ g5 _ (ints .u8 (padX 92 key)) 112 r5_6 rfl (Qag 112 _ _ g5 112 _ _ r5_6 rfl kj kj (isz (n:=64) kj (izT (QaS 92 key))) (eqsz (n:=64) (izT (QaS 92 key)) (izT (QaS 92 key))) (ints_one _ _)) (fun W hp hrw=>hrw) fun W7 p7 r5_7=>?_
   have x7:=zbu p7 x6 b5
   refine Qd8 <| hK34 _ _ <| wp_ret ?_
   repeat (first | with_reducible refine goR1 ?_ | with_reducible refine goR2 ?_)
   have r4_7:=(zbt p7 r4_6 n_4_5)
   exact (show bodyPost _ _ _ .ret _ _ from ret2 (.agg (ints .u8 (padX 54 key))) (.agg (ints .u8 (padX 92 key))) rfl (QaU g4 112 _ r4_7 kj kj (isz (n:=64) kj (izT (QaS 54 key)))) (QaU g5 112 _ r5_7 kj kj (isz (n:=64) kj (izT (QaS 92 key)))) ⟨rfl,x7⟩)
end Sha
end
section
namespace Sha
open Go Go.RowKit
open Rely Auto Own
theorem tagC (key : List Int) (v:Value) (B:Nat) (gp n:Nat) (Tp:TypeId) (ps:List (Value×List Int)) (hn:ps.length=n) (hn9:n≤1000000) (tc tq:TypeId) (w:World) (hc:w.heap[1]? = some (.cells (ints .u64 QbI) tc)) (hq:w.heap[0]? = some (.cells (ints .u64 Qbf) tq)) (hkb:Qaf key) (hkl:key.length≤800000000) (hk:RdK .u8 B key v w) (hrow:w.heap[gp]? = some (.cells (ps.map Prod.fst).toArray Tp)) (hps:∀ p∈ps,RdK .u8 w.heap.size p.2 p.1 w∧Qaf p.2) (hlen:((ps.map Prod.snd).flatten).length≤800000000) :
  Calls Tryz.prog 116 #[v,.slice (some ⟨gp,0,none⟩) n n] w (Ret w (.agg (ints .u8 (hmac key ((ps.map Prod.snd).flatten))))):=by
 obtain ⟨a_key,c_key,rfl,-⟩:=id hk
 refine enter 36 [(0,.slice a_key key.length c_key),(1,.slice (some ⟨gp,0,none⟩) n n)] Tryz.func116 rfl rfl kj rfl <| sgC fun K4 hK4=>Qak (ints .u8 (zae 32 0)) 35 4 rfl kj kj fun g5 W1 l5 e1 r5_1=>?_
 have x1:=zbv (zbr w) e1
 refine sgN hK4 <| sgC fun K6 hK6=>sg 1 kj ?_
 have r1_1:=(Qaa hc e1)
 have r2_1:=(Qaa hq e1)
 refine Qas (.tuple #[.agg (ints .u8 (padX 54 key)),.agg (ints .u8 (padX 92 key))]) 128 #[.slice a_key key.length c_key] 13 rfl kj kj (Qrh key _ B tc tq _ r1_1 r2_1 hkb (by omega) (zby hk x1)) fun W2 e2=>?_
 have x2:=zbv x1 e2
 refine sg 3 kj <| Qak (ints .u8 (zae 64 0)) 112 5 rfl kj kj fun g7 W3 l7 e3 r7_3=>?_
 have x3:=zbv x2 e3
 refine Qak (ints .u8 (zae 64 0)) 112 6 rfl kj kj fun g8 W4 l8 e4 r8_4=>?_
 have r7_4:=(Qaa r7_3 e4)
 refine Qai g7 _ (ints .u8 (padX 54 key)) 112 r7_4 rfl kj (Qag 112 _ _ g7 112 _ _ r7_4 rfl kj kj (isz (n:=64) kj (izT (QaS 54 key))) (eqsz (n:=64) (izT (qZ (n:=64))) (izT (QaS 54 key))) (ints_one _ _)) fun W5 p5 r7_5=>?_
 have r8_5:=(zbt p5 r8_4 (Qap r7_3 l8))
 refine Qai g8 _ (ints .u8 (padX 92 key)) 112 r8_5 rfl kj (Qag 112 _ _ g8 112 _ _ r8_5 rfl kj kj (isz (n:=64) kj (izT (QaS 92 key))) (eqsz (n:=64) (izT (qZ (n:=64))) (izT (QaS 92 key))) (ints_one _ _)) fun W6 p6 r8_6=>?_
 have x6:=zbu p6 (zbu p5 (zbv x3 e4) (qT x2.size l7)) (qT x3.size l8)
 refine sgN hK6 <| sgC fun K9 hK9=>?_
 have r2_2:=(Qaa r2_1 e2)
 have r2_3:=(Qaa r2_2 e3)
 have r2_6:=(zbt p6 (zbt p5 (Qaa r2_3 e4) (Qad r2_2 l7)) (Qad r2_3 l8))
 refine Qaw (fun v W'=>(fun v W=>∃ g,v=.pointer (some ⟨g,0,none⟩)∧W6.heap.size≤g∧HasD g [] W) v W'∧Ext W6 W') 42 #[] 16 rfl kj kj ((newC tq _ r2_6).mono (by rintro e w' ⟨v,rfl,e1,hv⟩; exact ⟨v,rfl,hv,e1⟩)) fun vv10 W7 hh10=>?_
 obtain ⟨hv10,e7⟩:=hh10
 obtain ⟨gd11,rfl,ld11,hD11⟩:=hv10
 have b11:=qT x6.size ld11
 refine sg 1 kj <| sgN hK9 <| sgC fun K12 hK12=>sg 2 kj ?_
 have r1_2:=(Qaa r1_1 e2)
 have r1_3:=(Qaa r1_2 e3)
 have r1_6:=(zbt p6 (zbt p5 (Qaa r1_3 e4) (Qad r1_2 l7)) (Qad r1_3 l8))
 have r1_7:=(Qaa r1_6 e7)
 have r7_6:=(zbt p6 r7_5 (Qad r7_3 l8))
 have r7_7:=(Qaa r7_6 e7)
 refine Qaw (fun v W'=>v=.tuple #[]∧ExtB gd11 W7 W'∧HasD gd11 (padX 54 key) W') 43 #[.pointer (some ⟨gd11,0,none⟩),.slice (some ⟨g7,0,none⟩) 64 64] 19 rfl kj kj ((addC gd11 _ [] (padX 54 key) (.slice (some ⟨g7,0,none⟩) 64 64) tc _ r1_7 (zaP (qL (Qa7 hc) b11)) (.inr (fun e=>(Qad r7_6 ld11) (Option.some.inj e))) (QgM _ _) (by rw [QaS]; decide) (hD11) (Qb8 (xs:=padX 54 key) (n:=64) (QaS 54 key) r7_7 (Qa7 r7_7) (show 64≤maxLen from by decide))).mono fun e w' h=>⟨_,h.1,rfl,h.2⟩) fun v W8 h=>?_
 obtain ⟨rfl,q8,hDp⟩:=h
 refine sgN hK12 <| wp_seq_k fun K13 hK13=>sgB kj <| wp_block <| QaT (fun (s1:Nat)=>[(20,.slice (some ⟨gp,0,none⟩) n n),(21,.int .i64 ((n:Nat):Int)),(22,.int .i64 ((s1:Nat):Int)),(7,.pointer (some ⟨gd11,0,none⟩)),(4,.pointer (some ⟨g5,0,none⟩)),(6,.pointer (some ⟨g8,0,none⟩))]) (fun (s1:Nat) W=>(s1≤n)∧(HasD gd11 (padX 54 key++flat ps s1) W)∧(Qa0 [gd11] W8 W)∧(Ext w W)) (fun (s1:Nat)=>n-s1) 0 ⟨kj,kj,kj,kj,kj,kj,trivial⟩ ⟨(zal _),(show HasD _ (padX 54 key++flat ps 0) _ from (zaS (padX 54 key)).symm▸hDp),(zbz [gd11] W8),(ExtB.up (zbv x6 e7) q8 b11)⟩ fun s1 X1 V1 hI1=>?_
 obtain ⟨i,hs1⟩:∃ z,z=s1:=⟨_,rfl⟩
 subst hs1
 obtain ⟨hi,hDi,kk1,xx1⟩:=hI1
 replace hi:i≤n:=hi
 replace hDi:HasD gd11 (padX 54 key++flat ps i) V1:=hDi
 replace kk1:Qa0 [gd11] W8 V1:=kk1
 replace xx1:Ext w V1:=xx1
 have q9:=kk1
 refine sgB kj <| wp_seq_k fun K16 hK16=>QaC (t:=decide (((i:Nat):Int)<((n:Nat):Int))) kj (fun c17=>?_) (fun c17=>?_)
 ·skip
  have hlt23:i<n:=by have:=of_decide_eq_true c17; omega
  refine wp_skip <| hK16 _ _ <| wp_seq_k fun K18 hK18=>wp_block <| sgC fun K19 hK19=>?_
  have hi2:i<ps.length:=by omega
  refine Qac (.pointer (some ⟨gp,i,none⟩)) 24 rfl kj (QbN 93 _ _ .i64 i gp n n 24 rfl kj kj kj kj hlt23) ?_
  have r3_2:=(Qaa (Qaa hrow e1) e2)
  have r3_3:=(Qaa r3_2 e3)
  have r3_6:=(zbt p6 (zbt p5 (Qaa r3_3 e4) (Qad r3_2 l7)) (Qad r3_3 l8))
  refine Qac ((pat ps i).1) 25 rfl kj (Qb5 24 _ _ ((pat ps i).1) (QaO (zb0 q9 (zbx q8 (Qaa r3_6 e7) (Qad r3_6 ld11)) (Qbd (Qad r3_6 ld11) Qbr)) (QlH hi2)) rfl kj kj) <| sg 1 kj <| sgN hK19 <| Qao <| sg 2 kj ?_
  have r1_8:=(zbx q8 r1_7 (Qad r1_6 ld11))
  have r1_9:=(zb0 q9 r1_8 (Qbd (Qad r1_6 ld11) Qbr))
  have hp6:=(hps _ (Qfy hi2)).1.ext xx1
  have hl6:=Qjw hi2
  refine Qaw (fun v W'=>v=.tuple #[]∧ExtB gd11 V1 W'∧HasD gd11 ((padX 54 key++flat ps i)++(pat ps i).2) W') 43 #[.pointer (some ⟨gd11,0,none⟩),(pat ps i).1] 28 rfl kj kj ((addC gd11 _ _ _ _ tc _ r1_9 (zaP (qL (Qa7 hc) b11)) (hp6.nb b11) (hps _ (Qfy hi2)).2 (by rw [zas,QaS]; omega) hDi hp6).mono fun e w' h=>⟨_,h.1,rfl,h.2⟩) fun v W10 h=>?_
  obtain ⟨rfl,q10,hDn⟩:=h
  have x10:=ExtB.up xx1 q10 b11
  refine Qaz <| hK18 _ _ <| Qao <| Qac (.int .i64 ((i+1:Nat):Int)) 29 rfl kj (Qam (u:=.int .i64 (zao.wrap (((i:Nat):Int)+1))) kj (congrArg (zam .i64) (i64n _ _ (by omega) (by omega)))) <| sg 1 kj <| Qaz ?_
  repeat (first | with_reducible refine goX1 ?_ | with_reducible refine goX2 ?_ | with_reducible refine goX3 ?_)
  exact QaL (i+1) ⟨kj,kj,kj,kj,kj,kj,trivial⟩ ⟨(by omega),(by rw [Qfh hi2,←za2]; exact hDn),(Qa0.but q9 q10 (.inl (by simp))),x10⟩ (by omega)
 ·skip
  have heq23:i=n:=by have:=of_decide_eq_false c17; omega
  refine wp_exit <| hK13 _ _ <| sgC fun K20 hK20=>sg 1 kj ?_
  have r1_8:=(zbx q8 r1_7 (Qad r1_6 ld11))
  have r1_9:=(zb0 q9 r1_8 (Qbd (Qad r1_6 ld11) Qbr))
  refine Qas (.agg (ints .u8 (dig (padX 54 key++flat ps i)))) 44 #[.pointer (some ⟨gd11,0,none⟩)] 31 rfl kj kj (sumC gd11 _ tc _ r1_9 (by rw [heq23,QdP hn,zas,QaS]; omega) hDi) fun W10 e10=>?_
  have x10:=zbv xx1 e10
  refine Qak (ints .u8 (zae 32 0)) 35 10 rfl kj kj fun g21 W11 l21 e11 r21_11=>Qai g21 _ (ints .u8 (dig (padX 54 key++flat ps i))) 35 r21_11 rfl kj (Qag 35 _ _ g21 35 _ _ r21_11 rfl kj kj (isz (n:=32) kj (izT (QaV _))) (eqsz (n:=32) (izT (qZ (n:=32))) (izT (QaV _))) (ints_one _ _)) fun W12 p12 r21_12=>sgN hK20 <| wp_seq_k fun K22 hK22=>Qba 2 [⟨none,[(6,none)]⟩,⟨none,[(10,none)]⟩] kj kj fun F hF=>Qa6 (Qar _) (.slice (some ⟨g8,0,none⟩) 64 64) kj kj (fun _=>kj) <| Qa6 (Qar _) (.slice (some ⟨g21,0,none⟩) 32 32) kj kj (fun _=>kj) <| Qdr (hF _ fun W13 e13=>?_)
  simp only [zaj,zak,zaf,zag,zah,zai,finE,up]
  clear hF
  have x13:=zbv (zbu p12 (zbv x10 e11) (qT x10.size l21)) e13
  refine QbM (#[.slice (some ⟨g8,0,none⟩) 64 64,.slice (some ⟨g21,0,none⟩) 32 32]) 24 2 34 rfl kj kj fun g23 W14 l23 e14 r23_14=>?_
  have b23:=qT x13.size l23
  have r8_10:=(Qaa (zb0 q9 (zbx q8 (Qaa r8_6 e7) (Qad r8_6 ld11)) (Qbd (Qad r8_6 ld11) Qbr)) e10)
  have r8_14:=(Qaa (Qaa (rpn p12 r8_10 e11 l21) e13) e14)
  have r21_14:=(Qaa (Qaa r21_12 e13) e14)
  have r1_10:=(Qaa r1_9 e10)
  have r2_10:=(Qaa (zb0 q9 (zbx q8 (Qaa r2_6 e7) (Qad r2_6 ld11)) (Qbd (Qad r2_6 ld11) Qbr)) e10)
  have hps24:∀ p∈([(.slice (some ⟨g8,0,none⟩) 64 64,padX 92 key),(.slice (some ⟨g21,0,none⟩) 32 32,dig (padX 54 key++flat ps i))]:List (Value×List Int)),RdK .u8 W14.heap.size p.2 p.1 W14∧Qaf p.2:=by
   intro p hp
   simp only [zaI,zaJ,or_false] at hp
   rcases hp with rfl | rfl
   ·exact ⟨zb3 (Qb8 (xs:=padX 92 key) (n:=64) (QaS 92 key) r8_14 (Qa7 r8_14) (show 64≤maxLen from by decide)),(QgM _ _)⟩
   ·exact ⟨zb3 (Qb8 (xs:=dig (padX 54 key++flat ps i)) (n:=32) (QaV _) r21_14 (Qa7 r21_14) (show 32≤maxLen from by decide)),(Qbo _)⟩
  have hsh24:=Qlv g23 2 _ ([(.slice (some ⟨g8,0,none⟩) 64 64,padX 92 key),(.slice (some ⟨g21,0,none⟩) 32 32,dig (padX 54 key++flat ps i))]:List (Value×List Int)) rfl (by decide) tc tq W14 (Qaa (Qaa (rpn p12 r1_10 e11 l21) e13) e14) (Qaa (Qaa (rpn p12 r2_10 e11 l21) e13) e14) r23_14 hps24 (by simp only [za7,za8,zaV,zaW,zaS,zas,(QaV _),(QaS 92 key)]; omega)
  rw [show ((zaX Prod.snd ([(.slice (some ⟨g8,0,none⟩) 64 64,padX 92 key),(.slice (some ⟨g21,0,none⟩) 32 32,dig (padX 54 key++flat ps i))]:List (Value×List Int))).flatten)=(padX 92 key)++(dig (padX 54 key++flat ps i)) by simp only [za7,za8,zaV,zaW,zaS]] at hsh24
  refine Qas (.agg (ints .u8 (dig ((padX 92 key)++(dig (padX 54 key++flat ps i)))))) 41 #[.slice (some ⟨g23,0,none⟩) 2 2] 35 rfl kj kj hsh24 fun W15 e15=>?_
  have r5_2:=(Qaa r5_1 e2)
  have r5_3:=(Qaa r5_2 e3)
  have r5_6:=(zbt p6 (zbt p5 (Qaa r5_3 e4) (Qad r5_2 l7)) (Qad r5_3 l8))
  have r5_10:=(Qaa (zb0 q9 (zbx q8 (Qaa r5_6 e7) (Qad r5_6 ld11)) (Qbd (Qad r5_6 ld11) Qbr)) e10)
  have r5_15:=(Qaa (Qaa (Qaa (rpn p12 r5_10 e11 l21) e13) e14) e15)
  refine Qai g5 _ (ints .u8 (dig ((padX 92 key)++(dig (padX 54 key++flat ps i))))) 35 r5_15 rfl kj (Qag 35 _ _ g5 35 _ _ r5_15 rfl kj kj (isz (n:=32) kj (izT (QaV _))) (eqsz (n:=32) (izT (qZ (n:=32))) (izT (QaV _))) (ints_one _ _)) fun W16 p16 r5_16=>sgN hK22 <| wp_ret ?_
  repeat (first | with_reducible refine goR1 ?_ | with_reducible refine goR2 ?_)
  exact (show bodyPost _ _ _ .ret _ _ from ret1 (.agg (ints .u8 (dig ((padX 92 key)++(dig (padX 54 key++flat ps i)))))) rfl (QaU g5 35 _ r5_16 kj kj (isz (n:=32) kj (izT (QaV _)))) ⟨by unfold hmac; rw [heq23,QdP hn],(zbu p16 (zbv (zbv x13 e14) e15) (qT (zbr w).size l5))⟩)
end Sha
end
section
namespace Auto
open Go Go.RowKit
open Rely Own
section
variable {P : Program} {w : World} {k kn : IntKind} {T : TypeId} {t tn ty : TypeId}
end
end Auto
end
section
namespace Sha
open Go Go.RowKit
open Rely Auto Own
theorem bytes_app {a b:List Int} (ha:Qaf a) (hb:Qaf b):Qaf (a++b):=fun x hx=>by
  rcases zau.1 hx with h | h
  · exact ha x h
  · exact hb x h
section
variable {ds : List Deferred} {P : Program} {ops : Array Oper} {Q : Exit → Act → World → Prop} {rest : List Oper} {o : Oper} {N : Nat} {L : Env} {W : World}
end
end Sha
end
section
namespace Sha
open Go Go.RowKit
open Rely Auto Own
theorem QnN (salt text:List Int) (v1 v2:Value) (B B2:Nat) (tc tq:TypeId) (w:World) (hc:w.heap[1]? = some (.cells (ints .u64 QbI) tc)) (hq:w.heap[0]? = some (.cells (ints .u64 Qbf) tq)) (hkl:salt.length≤800000000) (htl:text.length≤800000000) (hkb:Qaf salt) (htb:Qaf text) (hk:RdK .u8 B salt v1 w) (ht:RdK .u8 B2 text v2 w):Calls Tryz.prog 99 #[v1,v2] w (Ret w (.agg (ints .u8 (hmac salt text)))):=by
  obtain ⟨a_salt,c_salt,rfl,-⟩:=id hk
  obtain ⟨a_text,c_text,rfl,-⟩:=id ht
  refine enter 9 [(0,.slice a_salt salt.length c_salt),(1,.slice a_text text.length c_text)] Tryz.func99 rfl rfl kj rfl <| sgC fun K3 hK3=>Qak (ints .u8 (zae 32 0)) 35 4 rfl kj kj fun g4 W1 l4 e1 r4_1=>?_
  have x1:=zbv (zbr w) e1
  refine sgN hK3 <| sgC fun K5 hK5=>sg 2 kj <| QbM (#[.slice a_text text.length c_text]) 24 1 7 rfl kj kj fun g6 W2 l6 e2 r6_2=>?_
  have x2:=zbv x1 e2
  have b6:=qT x1.size l6
  have hps7:∀ p∈([(.slice a_text text.length c_text,text)]:List (Value×List Int)),RdK .u8 W2.heap.size p.2 p.1 W2∧Qaf p.2:=by
    intro p hp
    simp only [zaI,zaJ,or_false] at hp
    rcases hp with rfl
    · exact ⟨zb3 (zby ht x2),htb⟩
  have htg7:=tagC (salt) (.slice a_salt salt.length c_salt) _ g6 1 _ ([(.slice a_text text.length c_text,text)]:List (Value×List Int)) rfl (by decide) tc tq W2 (Qaa (Qaa hc e1) e2) (Qaa (Qaa hq e1) e2) hkb (by omega) (zby hk x2) r6_2 hps7 (by simp only [za7,za8,zaV,zaW,zaS,zas]; omega)
  rw [show ((zaX Prod.snd ([(.slice a_text text.length c_text,text)]:List (Value×List Int))).flatten)=text by simp only [za7,za8,zaV,zaW,zaS,za2]] at htg7
  refine Qas (.agg (ints .u8 (hmac (salt) (text)))) 116 #[.slice a_salt salt.length c_salt,.slice (some ⟨g6,0,none⟩) 1 1] 8 rfl kj kj htg7 fun W3 e3=>?_
  have r4_3:=(Qaa (Qaa r4_1 e2) e3)
  refine Qai g4 _ (ints .u8 (hmac (salt) (text))) 35 r4_3 rfl kj (Qag 35 _ _ g4 35 _ _ r4_3 rfl kj kj (isz (n:=32) kj (izT (QbT _ _))) (eqsz (n:=32) (izT (qZ (n:=32))) (izT (QbT _ _))) (ints_one _ _)) fun W4 p4 r4_4=>sgN hK5 <| wp_ret ?_
  repeat (first | with_reducible refine goR1 ?_ | with_reducible refine goR2 ?_)
  exact (show bodyPost _ _ _ .ret _ _ from ret1 (.agg (ints .u8 (hmac (salt) (text)))) rfl (QaU g4 35 _ r4_4 kj kj (isz (n:=32) kj (izT (QbT _ _)))) ⟨rfl,(zbu p4 (zbv x2 e3) (qT (zbr w).size l4))⟩)
end Sha
end
section
namespace Sha
open Go Go.RowKit
open Rely Auto Own
def tg (key info:List Int):Nat→List Int
  | 0=>[]
  | i+1=>hmac key ((tg key info i++info)++[((i+1:Nat):Int)])
def okm (key info:List Int):Nat→List Int
  | 0=>[]
  | k+1=>okm key info k++tg key info (k+1)
theorem QqR (key info:List Int) (i:Nat):(tg key info i).length≤32:=by
  cases i with
  | zero=>exact zal _
  | succ i=>exact qE (QbT _ _)
theorem QjC (key info:List Int) (i:Nat):Qaf (tg key info i):=by
  cases i with
  | zero=>intro x hx; cases hx
  | succ i=>exact QgW _ _
theorem Qjk (key info:List Int) (k:Nat):(okm key info k).length=32*k:=by
  induction k with
  | zero=>rfl
  | succ k ih=>rw [okm,zas,ih,tg,QbT]; omega
theorem u8_n (k : Nat) (h:k+1≤255):zaE.wrap ((k+1:Nat):Int)=((k+1:Nat):Int):=by rw [Qq6]; omega
end Sha
end
section
namespace Sha
open Go Go.RowKit
open Rely Auto Own
theorem Qk6 (m : Nat) (gs:List Nat) (g1 g2 B:Nat) (key info:List Int) (a_key a_info:Option Addr) (c_key c_info:Nat) (tc tq:TypeId) (w:World) (hkl:key.length≤800000000) (hil:info.length≤700000000) (hkb:Qaf key) (hib:Qaf info)
  (hBw:B≤w.heap.size) (hgs:∀ c∈gs,B≤c) (hgl:∀ c∈gs,c<w.heap.size) (hkw:RdK .u8 B key (.slice a_key key.length c_key) w) (hiw:RdK .u8 B info (.slice a_info info.length c_info) w)
  (hcw:w.heap[1]? = some (.cells (ints .u64 QbI) tc)) (hqw:w.heap[0]? = some (.cells (ints .u64 Qbf) tq)) (r1w:w.heap[g1]? = some (.cells #[.slice a_key key.length c_key] 24)) (r2w:w.heap[g2]? = some (.cells #[.slice a_info info.length c_info] 24)) (n1:g1∉gs) (n2:g2∉gs) (nc:1∉gs) (nq:0∉gs) :
  SeqStopsK Fence.wide m Tryz.prog 126 #[.pointer (some ⟨g1,0,none⟩),.pointer (some ⟨g2,0,none⟩)] (fun i:Nat=>#[Value.agg (ints .u8 (tg key info (i+1)))]) (Qcn gs) (fun ys=>ys=zaY 255) (fun ys=>∃ k,ys=zaY k∧k≤255) 256 w:=fun l J Jx Wi hW hJ hJx hY h0=>by
 refine callsIn_wide.2 ?_
 have hwi:=hW.size
 have hBi:B≤Wi.heap.size:=qT hBw hwi
 have hk:=hkw.ext hW
 have hi:=hiw.ext hW
 have hc:=Qaa hcw hW
 have hq:=Qaa hqw hW
 refine enter 24 [(0,.func (.yield l) #[] #[]),(1,.pointer (some ⟨g1,0,none⟩)),(2,.pointer (some ⟨g2,0,none⟩))] Tryz.func126 rfl rfl kj rfl <| sgB kj <| sgB kj <| wp_block <| QaT (fun (s1:Nat×Value)=>[(0,.func (.yield l) #[] #[]),(1,.pointer (some ⟨g1,0,none⟩)),(2,.pointer (some ⟨g2,0,none⟩)),(4,s1.2),(5,.int .i64 ((s1.1+1:Nat):Int))]) (fun (s1:Nat×Value) W=>(s1.1≤255)∧(J (zaY s1.1) W)∧(W.heap[g1]? = some (.cells #[.slice a_key key.length c_key] 24))∧(W.heap[g2]? = some (.cells #[.slice a_info info.length c_info] 24))∧(W.heap[1]? = some (.cells (ints .u64 QbI) tc))∧(W.heap[0]? = some (.cells (ints .u64 Qbf) tq))∧(RdK .u8 B key (.slice a_key key.length c_key) W)∧(RdK .u8 B info (.slice a_info info.length c_info) W)∧(OwnN .u8 35 Wi.heap.size (tg key info s1.1) s1.2 W)∧(Grew Wi W)) (fun (s1:Nat×Value)=>255-s1.1) (0,(.slice none 0 0)) ⟨kj,kj,kj,kj,kj,trivial⟩ ⟨(by decide),(show J (zaY 0) _ from h0),(Qaa r1w hW),(Qaa r2w hW),hc,hq,hk,hi,(QjO _ _ _ _),(Grew.refl Wi)⟩ fun s1 X1 V1 hI1=>?_
 obtain ⟨k,v⟩:=s1
 obtain ⟨hkl_,hJ1,rr1,rr2,rrc,rrq,hk1,hi1,hv,xx1⟩:=hI1
 replace hkl_:k≤255:=hkl_
 replace hJ1:J (zaY k) V1:=hJ1
 replace rr1:V1.heap[g1]? = some (.cells #[.slice a_key key.length c_key] 24):=rr1
 replace rr2:V1.heap[g2]? = some (.cells #[.slice a_info info.length c_info] 24):=rr2
 replace rrc:V1.heap[1]? = some (.cells (ints .u64 QbI) tc):=rrc
 replace rrq:V1.heap[0]? = some (.cells (ints .u64 Qbf) tq):=rrq
 replace hk1:RdK .u8 B key (.slice a_key key.length c_key) V1:=hk1
 replace hi1:RdK .u8 B info (.slice a_info info.length c_info) V1:=hi1
 replace hv:OwnN .u8 35 Wi.heap.size (tg key info k) v V1:=hv
 replace xx1:Grew Wi V1:=xx1
 obtain ⟨a4,c4,rfl,-⟩:=id (OwnN.rd hv)
 refine wp_seq_k fun K7 hK7=>sgB kj <| QaC (t:=decide (((k+1:Nat):Int)≤255)) kj (fun c9=>?_) (fun c9=>?_)
 ·skip
  have hlt:k+1≤255:=by have:=of_decide_eq_true c9; omega
  have htl:=QqR key info k
  have hl1:[((k+1:Nat):Int)].length=1:=rfl
  refine wp_skip <| hK7 _ _ <| wp_seq_k fun K10 hK10=>wp_block <| sgC fun K11 hK11=>Qac (.slice a_key key.length c_key) 11 rfl kj (Qaj 24 _ g1 0 24 _ (.slice a_key key.length c_key) _ rr1 rfl kj kj kj) <| sg 1 kj <| Qac (.slice a_info info.length c_info) 13 rfl kj (Qaj 24 _ g2 0 24 _ (.slice a_info info.length c_info) _ rr2 rfl kj kj kj) <| sg 1 kj <| Qac (.int .u8 (((k+1:Nat):Int))) 15 rfl kj (Qam (u:=.int .u8 (zaE.wrap ((k+1:Nat):Int))) kj (congrArg (zam .u8) (u8_n _ (by omega)))) ?_
  refine QbM (ints .u8 ([(((k+1:Nat):Int))])) 5 1 16 rfl kj kj fun g12 W2 l12 e2 r12_2=>?_
  have x2:=Grew.ext xx1 e2
  have b12:=qT xx1.size l12
  refine QbM (#[.slice a4 ((tg key info k).length) c4,.slice a_info info.length c_info,.slice (some ⟨g12,0,none⟩) 1 1]) 24 3 17 rfl kj kj fun g13 W3 l13 e3 r13_3=>?_
  have b13:=qT x2.size l13
  have f16_3:=((hk1.ext e2).ext e3)
  have f20_3:=((hi1.ext e2).ext e3)
  have r12_3:=(Qaa r12_2 e3)
  have r1_3:=(Qaa (Qaa rrc e2) e3)
  have r2_3:=(Qaa (Qaa rrq e2) e3)
  have hps14:∀ p∈([(.slice a4 ((tg key info k).length) c4,tg key info k),(.slice a_info info.length c_info,info),(.slice (some ⟨g12,0,none⟩) 1 1,[(((k+1:Nat):Int))])]:List (Value×List Int)),RdK .u8 W3.heap.size p.2 p.1 W3∧Qaf p.2:=by
   intro p hp
   simp only [zaI,zaJ,or_false] at hp
   rcases hp with rfl | rfl | rfl
   ·exact ⟨zb3 (OwnN.rd ((hv.ext e2).ext e3)),(QjC _ _ _)⟩
   ·exact ⟨zb3 f20_3,hib⟩
   ·exact ⟨zb3 (Qb8 (xs:=[(((k+1:Nat):Int))]) (n:=1) rfl r12_3 (Qa7 r12_3) (show 1≤maxLen from by decide)),(fun x hx=>by rw [List.mem_singleton] at hx; subst hx; omega)⟩
  have htg14:=tagC (key) (.slice a_key key.length c_key) _ g13 3 _ ([(.slice a4 ((tg key info k).length) c4,tg key info k),(.slice a_info info.length c_info,info),(.slice (some ⟨g12,0,none⟩) 1 1,[(((k+1:Nat):Int))])]:List (Value×List Int)) rfl (by decide) tc tq W3 r1_3 r2_3 hkb (by omega) f16_3 r13_3 hps14 (by simp only [za7,za8,zaV,zaW,zaS,zas]; omega)
  rw [show ((zaX Prod.snd ([(.slice a4 ((tg key info k).length) c4,tg key info k),(.slice a_info info.length c_info,info),(.slice (some ⟨g12,0,none⟩) 1 1,[(((k+1:Nat):Int))])]:List (Value×List Int))).flatten)=(tg key info k)++info++([(((k+1:Nat):Int))]) by simp only [za7,za8,zaV,zaW,zaS,za2]] at htg14
  refine Qas (.agg (ints .u8 (hmac (key) ((tg key info k)++info++([(((k+1:Nat):Int))]))))) 116 #[.slice a_key key.length c_key,.slice (some ⟨g13,0,none⟩) 3 3] 18 rfl kj kj htg14 fun W4 e4=>?_
  have x4:=Grew.ext (Grew.ext x2 e3) e4
  refine Qak (ints .u8 (zae 32 0)) 35 6 rfl kj kj fun g21 W5 l21 e5 r21_5=>?_
  have b21:=qT x4.size l21
  refine Qai g21 _ (ints .u8 (hmac (key) ((tg key info k)++info++([(((k+1:Nat):Int))])))) 35 r21_5 rfl kj (Qag 35 _ _ g21 35 _ _ r21_5 rfl kj kj (isz (n:=32) kj (izT (QbT _ _))) (eqsz (n:=32) (izT (qZ (n:=32))) (izT (QbT _ _))) (ints_one _ _)) fun W6 p6 r21_6=>?_
  have r21_6_22:W6.heap[g21]? = some (.cells (ints .u8 (tg key info (k+1))) 35):=QaG r21_6 rfl
  refine sgN hK11 <| wp_seq_k fun K23 hK23=>wp_seq_k fun K24 hK24=>(wpIn_wide (n:=m)).1 <| Qb7 <| QbZ (.func (.yield l) #[] #[]) 19 rfl (QbJ _ _) rfl kj kj <| QbZ (.agg (ints .u8 (tg key info (k+1)))) 20 rfl (QbJ _ _) rfl kj (Qae 35 _ g21 35 _ _ r21_6_22 rfl kj kj (isz (n:=32) kj (izT (QbT _ _)))) ?_
  have y1_4:=(zbs (zbs (zbs (zbr V1) e2) e3) e4)
  refine QjZ (m:=m) (l:=l) (args:=#[.agg (ints .u8 (tg key info (k+1)))]) 21 rfl rfl kj kj (hY (zaY k) k W6 (Qhf hJ hJ1 (zbu p6 (zbs y1_4 e5) (qT y1_4.size l21))) (by rw [zaZ]; omega)) (fun W' hA=>?_) (fun W' hA=>?_)
  ·skip
   obtain ⟨W7,hW7⟩:∃ z,z=W':=⟨_,rfl⟩
   rw [←hW7] at hA ⊢
   obtain ⟨hj25,hk25⟩:=hA
   refine QbZ (.bool false) 22 rfl (QbJ _ _) rfl kj kj <| Qd2 <| hK24 _ _ <| cond_false kj <| wp_skip <| hK23 _ _ <| sgA kj <| hK10 _ _ <| Qao <| sg 1 kj ?_
   refine Qac (.int .i64 (((k+1)+1:Nat):Int)) 10 rfl kj (Qam (u:=.int .i64 (zao.wrap (((k+1:Nat):Int)+1))) kj (congrArg (zam .i64) (i64n _ _ (by omega) (by omega)))) <| sg 1 kj <| Qaz ?_
   have r3_4:=(Qaa (Qaa (Qaa rr1 e2) e3) e4)
   have r4_4:=(Qaa (Qaa (Qaa rr2 e2) e3) e4)
   have r1_4:=(Qaa r1_3 e4)
   have r2_4:=(Qaa r2_3 e4)
   have r21_7:=(Qcn.row hk25 r21_6_22 (fun hm=>by have h1:=hgl _ hm; have h2:=b21; omega))
   repeat (first | with_reducible refine goX1 ?_ | with_reducible refine goX2 ?_ | with_reducible refine goX3 ?_)
   exact QaL ((k+1),.slice (some ⟨g21,0,none⟩) 32 32) ⟨kj,kj,kj,kj,kj,trivial⟩ ⟨(by omega),(by rw [zba]; exact hj25),(Qcn.row hk25 (rpn p6 r3_4 e5 l21) n1),(Qcn.row hk25 (rpn p6 r4_4 e5 l21) n2),(Qcn.row hk25 (rpn p6 r1_4 e5 l21) nc),(Qcn.row hk25 (rpn p6 r2_4 e5 l21) nq),(RdK.keepC (((f16_3.ext e4).ext e5).puts p6 (qT hBi b21)) hk25 hgs),(RdK.keepC (((f20_3.ext e4).ext e5).puts p6 (qT hBi b21)) hk25 hgs),(QdD (xs:=tg key info (k+1)) (QbT _ _) b21 r21_7 (by decide)),(Grew.keepC (Grew.puts (Grew.ext x4 e5) p6) hk25)⟩ (by show 255-(k+1)<255-k; omega)
  ·skip
   obtain ⟨W7,hW7⟩:∃ z,z=W':=⟨_,rfl⟩
   rw [←hW7] at hA ⊢
   refine QbZ (.bool true) 22 rfl (QbJ _ _) rfl kj kj <| Qd2 <| hK24 _ _ <| cond_true kj <| wp_ret ?_
   repeat (first | with_reducible refine goR1 ?_ | with_reducible refine goR2 ?_)
   exact (show bodyPost _ _ _ .ret _ _ from ret0 rfl ⟨⟨_,rfl⟩,.inr ⟨_,⟨k+1,zba.symm,hlt⟩,hA⟩⟩)
 ·skip
  have hke:k=255:=by have:=of_decide_eq_false c9; omega
  refine wp_exit ?_
  repeat (first | with_reducible refine goX1 ?_ | with_reducible refine goX2 ?_ | with_reducible refine goX3 ?_)
  exact (show bodyPost _ _ _ .normal _ _ from end0 rfl ⟨⟨_,rfl⟩,.inl ⟨_,congrArg zaY hke,hJ1⟩⟩)
end Sha
end
section
namespace Sha
open Go Go.RowKit
open Rely Auto Own
theorem Ql4 {P : Program} {ρ:Operand→Value} {o:Oper} {W:World} {k:IntKind} {e:TypeId} (x y:Operand) (tx ty:TypeId) (ho:o.op=.call { callee:=.builtin .copy,args:=#[x,y],argTypes:=#[tx,ty] }) (hu:P.underlying tx=some (.slice e)) (hsz:(P.info? e).map (·.size)=some 1)
    {g off dl dc n B:Nat} {xs z:List Int} {v:Value} {T:TypeId} (hx:ρ x=.slice (some ⟨g,off,none⟩) dl dc) (hy:ρ y=v) (hr:RdK k B z v W)
    (hg:W.heap[g]? = some (.cells (ints k xs) T)) (hq:off+dl≤xs.length) (hn:n=min z.length dl) :
    ∃ W':World,(execOp ρ o).run P W=.ok (.value (.int .i64 ((n:Nat):Int))) W'∧Puts W g W'∧W'.heap[g]? = some (.cells (ints k (xs.take off++z.take n++xs.drop (off+n))) T):=by
  obtain ⟨a,cap,rfl,y2,y3,y4,y5⟩:=hr
  have hgo:∀ W',(Builtin.copy_ #[tx,ty] o.type #[.slice (some ⟨g,off,none⟩) dl dc,.slice a z.length cap]).run P W=.ok (goInt n) W'→(execOp ρ o).run P W=.ok (.value (.int .i64 ((n:Nat):Int))) W':=fun W' h=>by
    unfold execOp
    simp only [ho,resolve,invoke,builtin,za3,za4,za5,za6,za7,za8,hx,hy,h,goInt]
  rcases zaT n with h0 | h0
  · refine ⟨W,hgo W ?_,⟨rfl,rfl,rfl,rfl,fun _ _=>rfl⟩,?_⟩
    · rw [h0]; exact run_copy_none W tx ty o.type e _ _ _ _ _ _ hu hsz (hn.symm.trans h0)
    · rw [h0,zag,zaS,Nat.add_zero,zaO]; exact hg
  · obtain ⟨gz,oz,rfl,z2,z3,z4⟩:=y5.resolve_left (fun e=>by rw [e] at hn; simp at hn; omega)
    have hlen:((z.take n).map (zam k)).length=n:=by simp; omega
    have h:=run_copy_row (P:=P) W tx ty o.type e g off dl dc ⟨gz,oz,none⟩ z.length cap (ints k xs) T ((z.take n).map (zam k)) hu hsz hg (by rw [hlen]; exact hn)
      (Qir (k:=k) (ys:=z.take n) fun i hi=>by
        rw [zat] at hi
        rw [z4 i (by omega)]
        simp [nth,show i<n by omega]) (by rw [hlen,QaD]; omega) (QkG k _)
    rw [hlen] at h
    have e1:((ints k xs).toList.take off++(z.take n).map (zam k)++(ints k xs).toList.drop (off+n)).toArray=ints k (xs.take off++z.take n++xs.drop (off+n)):=by
      apply zay
      show (xs.map (zam k)).take off++(z.take n).map (zam k)++(xs.map (zam k)).drop (off+n)=(xs.take off++z.take n++xs.drop (off+n)).map (zam k)
      simp only [zaz,za0,za1]
    rw [e1] at h
    exact ⟨_,hgo _ h,QbO _ _ _,setRow_heap _ _ _ _ _ _ hg⟩
theorem Qia {P : Program} {ρ:Operand→Value} {o:Oper} {W:World} {k:IntKind} {e:TypeId} (x y:Operand) (tx ty:TypeId) (ho:o.op=.call { callee:=.builtin .copy,args:=#[x,y],argTypes:=#[tx,ty] }) (hu:P.underlying tx=some (.slice e)) (hsz:(P.info? e).map (·.size)=some 1)
    {g off dl dc n B:Nat} {xs ys z:List Int} {v:Value} {T:TypeId} (hx:ρ x=.slice (some ⟨g,off,none⟩) dl dc) (hy:ρ y=v) (hr:RdK k B z v W)
    (hg:W.heap[g]? = some (.cells (ints k xs) T)) (hq:off+dl≤xs.length) (hn:n=min z.length dl) (hY:xs.take off++z.take n++xs.drop (off+n)=ys) :
    ∃ W':World,(execOp ρ o).run P W=.ok (.value (.int .i64 ((n:Nat):Int))) W'∧Puts W g W'∧W'.heap[g]? = some (.cells (ints k ys) T):=hY▸Ql4 x y tx ty ho hu hsz hx hy hr hg hq hn
theorem QjL {P : Program} {ρ:Operand→Value} {o:Oper} {W:World} {g:Nat} {X Y:Obj} {v:Value} (h:∃ W':World,(execOp ρ o).run P W=.ok (.value v) W'∧Puts W g W'∧W'.heap[g]? = some Y) :
    ∃ u W',(execOp ρ o).run P W=.ok (.value u) W'∧QdT g X Y W W'∧(u=v∧W'.heap[g]? = some Y):=by
  obtain ⟨W',e1,p1,r1⟩:=h
  exact ⟨_,W',e1,⟨ExtB.puts (ExtB.refl _ _) p1,.inr r1⟩,rfl,r1⟩
theorem QgG {P : Program} {ρ:Operand→Value} {o:Oper} {w:World} (t:TypeId) (x z:Operand) (l g len cap:Nat) (e:TypeId) (ho:o.op=.slice t x (some z) none none) (hx:ρ x=.slice (some ⟨g,0,none⟩) len cap)
    (hu:P.underlying t=some (.slice e)) (hs:(P.info? e).map (·.size)=some 1) (kz:IntKind) (hz:ρ z=.int kz (l:Int)) (h1:l≤len) (h2:len≤cap) :
    (execOp ρ o).run P w=.ok (.value (.slice (some ⟨g,(if cap=l then 0 else l),none⟩) (len-l) (cap-l))) w:=by
  cases hq:P.info? e with
  | none=>simp [hq] at hs
  | some i =>
    have hs':i.size=1:=by simpa [hq] using hs
    unfold execOp
    simp [ho,hx,hz,Instr.sliceAt,Instr.slice,Instr.sliceBounds,run_sliceBound,run_underlying hu,sizeOf,typeInfo,hq,hs',h1,h2]
    split
    · simp [Addr.add]
    · simp [Addr.add]
      exact fun h=>h.symm
theorem goXo {K : Act→World→Prop} {Q:Exit→Act→World→Prop} {a:Act} {w:World} {n m:Nat} (h:n≠m) (k:Q (.exit n) a w):Exit.inBlock m Q (.exit n) a w:=by
  unfold Exit.inBlock
  simp [h]
  exact k
theorem Qi5 {W W':World} {g:Nat} {cs:Array Value} {t:TypeId} (h:ExtB g W W') (r:W.heap[g]? = some (.cells cs t)):KeepsOthers W W' :=
  ⟨h.2.2.2.1,fun k o hk ho=>by
    by_cases e:k=g
    · subst e
      rw [r] at hk
      cases hk
      cases ho
    · exact (h.2.2.2.2 k (Qa7 hk) e).trans hk⟩
theorem Qmh {gs : List Nat} {A B:World} {g:Nat} (h:ExtB g A B) (hm:g∈gs):Qcn gs A B:=⟨h.2.2.2.1,fun k cs t fr q n=>(h.2.2.2.2 k (Qa7 q) (fun e=>n (e▸hm))).trans q⟩
theorem QkS {gs : List Nat} {A B:World} {g:Nat} (h:Puts A g B) (hm:g∈gs):Qcn gs A B:=⟨qE h.2.2.2.1.symm,fun k cs t fr q n=>(h.2.2.2.2 k (fun e=>n (e▸hm))).trans q⟩
def okL (key info:List Int) (pre:List Nat):List Int:=(pre.map fun x=>tg key info (x+1)).flatten
def FF (key info:List Int) (n:Nat) (pre:List Nat):List Int:=(okL key info pre).take n++zae (n-32*pre.length) 0
theorem Qjl (key info:List Int):∀ pre,(okL key info pre).length=32*pre.length
  | []=>rfl
  | x::l=>by
    have:=Qjl key info l
    unfold okL at this ⊢
    rw [za7,zaV,zas,this,tg,QbT,zbb]; omega
theorem QjP (key info:List Int) (pre:List Nat) (x:Nat):okL key info (pre++[x])=okL key info pre++tg key info (x+1):=by simp [okL]
theorem Qio (key info:List Int):∀ k,okL key info (zaY k)=okm key info k
  | 0=>rfl
  | k+1=>by rw [zba,QjP,Qio key info k,okm]
theorem QmP (key info:List Int) (n:Nat) (pre:List Nat):(FF key info n pre).length=n:=by
  unfold FF
  rw [zas,zat,Qjl,qZ]; omega
theorem QqJ (key info:List Int) (n:Nat):zae n 0=FF key info n []:=by simp [FF,okL]
theorem Qmx (key info:List Int) (n:Nat) (pre:List Nat) (x:Nat) (h:pre.length=0∨32*pre.length<n) :
    (FF key info n pre).take (if n=32*pre.length then 0 else 32*pre.length)++(tg key info (x+1)).take (min 32 (n-32*pre.length))++(FF key info n pre).drop ((if n=32*pre.length then 0 else 32*pre.length)+min 32 (n-32*pre.length))=FF key info n (pre++[x]):=by
  have hl:=Qjl key info pre
  have ht:(tg key info (x+1)).length=32:=QbT _ _
  have hp:(pre++[x]).length=pre.length+1:=by simp
  by_cases hn:n=32*pre.length
  · have h0:n=0:=by omega
    subst h0
    rw [if_pos hn]
    unfold FF
    simp
  · have hlt:32*pre.length<n:=by omega
    rw [if_neg hn]
    unfold FF
    rw [QjP,hp,zax (by omega:(okL key info pre).length≤n),zaq (by omega),zax (by omega:(okL key info pre).length≤32*pre.length),
      List.drop_append,zaD (by omega:(okL key info pre).length≤32*pre.length+min 32 (n-32*pre.length)),zaj,zaU,List.take_append,zax (by omega:(okL key info pre).length≤n),hl]
    congr 1
    · congr 1
      by_cases h32:n-32*pre.length≤32
      · rw [show min 32 (n-32*pre.length)=n-32*pre.length by omega]
      · rw [show min 32 (n-32*pre.length)=32 by omega,zax (by omega),zax (by omega)]
    · congr 1; omega
theorem QnM (key info:List Int) (n:Nat) (pre:List Nat) (x:Nat) (h:pre.length=0∨32*pre.length<n) :
    (FF key info n (pre++[x])).take (if n=32*pre.length then 0 else 32*pre.length)++(tg key info (x+1)).take (min 32 (n-32*pre.length))++(FF key info n (pre++[x])).drop ((if n=32*pre.length then 0 else 32*pre.length)+min 32 (n-32*pre.length))=FF key info n (pre++[x]):=by
  have ht:(tg key info (x+1)).length=32:=QbT _ _
  rw [←Qmx key info n pre x h]
  refine Qni _ _ _ _ ?_ (by omega)
  rw [QmP]
  split <;> omega
theorem QpF (key info:List Int) (n k:Nat) (h:n≤32*k):FF key info n (zaY k)=(okm key info k).take n:=by
  unfold FF
  rw [Qio,zaZ,show n-32*k=0 by omega,zbc,zaS]
theorem Qfo (key info:List Int) (x:Nat):(tg key info (x+1)).length=32:=QbT _ _
theorem QqT (a_key a_info:Option Addr) (n1 n2 c1 c2:Nat) (w:World):Calls Tryz.prog 107 #[.slice a_key n1 c1,.slice a_info n2 c2] w (QcL w (fun v W=>∃ g1 g2,v=.func (.func 126) #[] #[.pointer (some ⟨g1,0,none⟩),.pointer (some ⟨g2,0,none⟩)]∧w.heap.size≤g1∧w.heap.size≤g2∧W.heap[g1]? = some (.cells #[.slice a_key n1 c1] 24)∧W.heap[g2]? = some (.cells #[.slice a_info n2 c2] 24))):=by
  refine enter 6 [(0,.slice a_key n1 c1),(1,.slice a_info n2 c2)] Tryz.func107 rfl rfl kj rfl <| sgC fun K1 hK1=>Qak (#[.slice a_key n1 c1]) 24 2 rfl kj kj fun g2 W1 l2 e1 r2_1=>?_
  have x1:=zbv (zbr w) e1
  refine Qak (#[.slice a_info n2 c2]) 24 3 rfl kj kj fun g3 W2 l3 e2 r3_2=>sg 1 kj <| sgN hK1 <| sgB kj <| wp_ret ?_
  repeat (first | with_reducible refine goR1 ?_ | with_reducible refine goR2 ?_)
  exact (show bodyPost _ _ _ .ret _ _ from ret1 (.func (.func 126) #[] #[.pointer (some ⟨g2,0,none⟩),.pointer (some ⟨g3,0,none⟩)]) rfl (Qa4 kj) ⟨_,rfl,(zbv x1 e2),g2,g3,rfl,(qT (zbr w).size l2),(qT x1.size l3),(Qaa r2_1 e2),r3_2⟩)
theorem Qnw (key info:List Int) (n k:Nat) (h:n≤32*k):((okm key info k).take n).length=n:=by
  rw [zat,Qjk]; omega
theorem Qn9 (key info:List Int) (v1 v2:Value) (B B2 n:Nat) (tc tq:TypeId) (w:World) (hc:w.heap[1]? = some (.cells (ints .u64 QbI) tc)) (hq:w.heap[0]? = some (.cells (ints .u64 Qbf) tq)) (hn:n≤8160) (hkl:key.length≤800000000) (hil:info.length≤700000000) (hkb:Qaf key) (hib:Qaf info) (hk:RdK .u8 B key v1 w) (hi:RdK .u8 B2 info v2 w) :
  Calls Tryz.prog 83 #[v1,v2,.int .i64 ((n:Nat):Int)] w (QcL w (fun v W=>∃ u k,v=.tuple #[u,.nilIface]∧n≤32*k∧OwnN .u8 5 w.heap.size ((okm key info k).take n) u W)):=by
 obtain ⟨a_key,c_key,rfl,-⟩:=id hk
 obtain ⟨a_info,c_info,rfl,-⟩:=id hi
 refine Qm1 35 [(0,.slice a_key key.length c_key),(1,.slice a_info info.length c_info),(2,.int .i64 ((n:Nat):Int))] Tryz.func83 rfl rfl kj rfl <| sgC fun K3 hK3=>Qak (#[.int .i64 ((n:Nat):Int)]) 3 5 rfl kj kj fun g4 W1 l4 e1 r4_1=>?_
 have x1:=zbv (zbr w) e1
 have b4:=qT (zbr w).size l4
 refine sg 2 kj <| sgN hK3 <| wp_scope_straight <| wp_seq_k fun K5 hK5=>sgC fun K6 hK6=>Qac (.int .i64 ((n:Nat):Int)) 11 rfl kj (Qaj 3 _ g4 0 3 _ (.int .i64 ((n:Nat):Int)) _ r4_1 rfl kj kj kj) <| Qac (.bool false) 12 rfl kj (Qam (u:=.bool (decide (((n:Nat):Int)<0))) kj (congrArg zbd (decide_eq_false (by omega)))) <| sg 1 kj <| Qac (.int .i64 ((n:Nat):Int)) 14 rfl kj (Qaj 3 _ g4 0 3 _ (.int .i64 ((n:Nat):Int)) _ r4_1 rfl kj kj kj) <| Qac (.bool false) 15 rfl kj (Qam (u:=.bool (decide (((n:Nat):Int)>8160))) kj (congrArg zbd (decide_eq_false (by omega)))) ?_
 refine sg 1 kj <| sgN hK6 <| cond_false kj <| wp_skip <| hK5 _ _ <| sgC fun K7 hK7=>Qac (.int .i64 ((n:Nat):Int)) 18 rfl kj (Qaj 3 _ g4 0 3 _ (.int .i64 ((n:Nat):Int)) _ r4_1 rfl kj kj kj) <| QbM (ints .u8 (zae n 0)) 5 n 19 rfl kj (Qfa 24 _ _ .i64 .i64 n 5 rfl kj kj kj (.inr kj) (by omega)) fun g8 W2 l8 e2 r8_2=>?_
 have x2:=zbv x1 e2
 have b8:=qT x1.size l8
 refine Qak (#[.slice none 0 0]) 24 8 rfl kj kj fun g9 W3 l9 e3 r9_3=>Qai g9 _ (#[.slice (some ⟨g8,0,none⟩) n n]) 24 r9_3 rfl kj (QbU 24 _ _ g9 0 24 _ (.slice (some ⟨g8,0,none⟩) n n) r9_3 rfl kj kj kj kj kj rfl) fun W4 p4 r9_4=>?_
 have x4:=zbu p4 (zbv x2 e3) (qT x2.size l9)
 refine sgN hK7 <| sgC fun K10 hK10=>Qak (#[.int .i64 0]) 3 9 rfl kj kj fun g11 W5 l11 e5 r11_5=>?_
 have b11:=qT x4.size l11
 refine Qai g11 _ (#[.int .i64 0]) 3 r11_5 rfl kj (QbU 3 _ _ g11 0 3 _ (.int .i64 0) r11_5 rfl kj kj kj kj kj rfl) fun W6 p6 r11_6=>sgN hK10 <| wp_seq_k fun K12 hK12=>wp_label <| hK12 _ _ <| wp_seq_k fun K13 hK13=>sgC fun K14 hK14=>sg 2 kj <| Qaw (fun v W'=>(fun v W=>∃ g1 g2,v=.func (.func 126) #[] #[.pointer (some ⟨g1,0,none⟩),.pointer (some ⟨g2,0,none⟩)]∧W6.heap.size≤g1∧W6.heap.size≤g2∧W.heap[g1]? = some (.cells #[.slice a_key key.length c_key] 24)∧W.heap[g2]? = some (.cells #[.slice a_info info.length c_info] 24)) v W'∧Ext W6 W') 107 #[.slice a_key key.length c_key,.slice a_info info.length c_info] 22 rfl kj kj ((QqT a_key a_info _ _ c_key c_info _).mono (by rintro e w' ⟨v,rfl,e1,hv⟩; exact ⟨v,rfl,hv,e1⟩)) fun vv15 W7 hh15=>?_
 obtain ⟨hv15,e7⟩:=hh15
 have x7:=zbv (zbu p6 (zbv x4 e5) b11) e7
 obtain ⟨gp1,gp2,rfl,lp1,lp2,rp1,rp2⟩:=hv15
 refine sgN hK14 <| wp_block ?_
 have r4_2:=(Qaa r4_1 e2)
 have r4_4:=(rpn p4 r4_2 e3 l9)
 have r4_7:=(Qaa (rpn p6 r4_4 e5 l11) e7)
 have r9_7:=(Qaa (rpn p6 r9_4 e5 l11) e7)
 have r11_7:=(Qaa r11_6 e7)
 have r8_4:=(rpn p4 r8_2 e3 l9)
 have r8_6:=(rpn p6 r8_4 e5 l11)
 have r8_7:=(Qaa r8_6 e7)
 have r1_2:=(Qaa (Qaa hc e1) e2)
 have r1_4:=(rpn p4 r1_2 e3 l9)
 have r2_2:=(Qaa (Qaa hq e1) e2)
 have r2_4:=(rpn p4 r2_2 e3 l9)
 have nb58:g4≠g9:=(Qad r4_2 l9)
 have nb59:g4≠g11:=(Qad r4_4 l11)
 have nb5O:g4≠g8:=(Qad r4_1 l8)
 have nb85:g9≠g4:=(Qap r4_2 l9)
 have nb89:g9≠g11:=(Qad r9_4 l11)
 have nb8O:g9≠g8:=(Qap r8_2 l9)
 have nb95:g11≠g4:=(Qap r4_4 l11)
 have nb98:g11≠g9:=(Qap r9_4 l11)
 have nb9O:g11≠g8:=(Qap r8_4 l11)
 have nbO5:g8≠g4:=(Qap r4_1 l8)
 have nbO8:g8≠g9:=(Qad r8_2 l9)
 have nbO9:g8≠g11:=(Qad r8_4 l11)
 have hgs:∀ c∈([g11,g8]:List Nat),w.heap.size≤c:=(fun c hc=>by simp only [zaI,zaJ,or_false] at hc; rcases hc with rfl | rfl; exact b11; exact b8)
 have hgl:∀ c∈([g11,g8]:List Nat),c<W7.heap.size:=(fun c hc=>by simp only [zaI,zaJ,or_false] at hc; rcases hc with rfl | rfl; exact Qa7 r11_7; exact Qa7 r8_7)
 have hgp:∀ c∈([g11,g8]:List Nat),c<W6.heap.size:=(fun c hc=>by simp only [zaI,zaJ,or_false] at hc; rcases hc with rfl | rfl; exact Qa7 r11_6; exact Qa7 r8_6)
 have hkL:RdK .u8 w.heap.size key (.slice a_key key.length c_key) W7:=(zb3 hk).ext x7
 have hiL:RdK .u8 w.heap.size info (.slice a_info info.length c_info) W7:=(zb3 hi).ext x7
 refine Qjb (gf:=126) (lb:=#[.pointer (some ⟨gp1,0,none⟩),.pointer (some ⟨gp2,0,none⟩)]) (enc:=fun x:Nat=>.agg (ints .u8 (tg key info (x+1)))) kj (enters_of Tryz.func126 kj rfl) (Qk6 2 [g11,g8] gp1 gp2 w.heap.size key info a_key a_info c_key c_info tc tq W7 hkl hil hkb hib x7.size hgs hgl hkL hiL (Qaa (rpn p6 r1_4 e5 l11) e7) (Qaa (rpn p6 r2_4 e5 l11) e7) rp1 rp2 (fun hm=>by have:=hgp _ hm; omega) (fun hm=>by have:=hgp _ hm; omega) (fun hm=>by have h1:=hgs _ hm; have h2:=Qa7 hc; omega) (fun hm=>by have h1:=hgs _ hm; have h2:=Qa7 hq; omega)) (fun h k=>Qcn.trans h k) Qcn.book (Below.refl _ _)
   (fun pre W=>((W.heap[g4]? = some (.cells (#[.int .i64 ((n:Nat):Int)]) 3))∧(W.heap[g9]? = some (.cells (#[.slice (some ⟨g8,0,none⟩) n n]) 24))∧(W.heap[g11]? = some (.cells (#[.int .i64 ((32*pre.length:Nat):Int)]) 3))∧(W.heap[g8]? = some (.cells (ints .u8 (FF key info n pre)) 5))∧(pre.length=0∨32*pre.length<n)∧W7.heap.size≤W.heap.size)∧Ext w W)
   (fun c pre W=>(c=.exit 0∧n≤32*pre.length∧(W.heap[g4]? = some (.cells (#[.int .i64 ((n:Nat):Int)]) 3))∧(W.heap[g9]? = some (.cells (#[.slice (some ⟨g8,0,none⟩) n n]) 24))∧(W.heap[g8]? = some (.cells (ints .u8 (FF key info n pre)) 5)))∧Ext w W) (OwnFrom.and (Own.from (fun s A B row hs hg hr=>⟨Qbx hs.1 hg hr,Qbx hs.2.1 hg hr,Qbx hs.2.2.1 hg hr,Qbx hs.2.2.2.1 hg hr,hs.2.2.2.2.1,qT hs.2.2.2.2.2 hg.size⟩) _) (ownFrom_below (qR _) x7.size)) (fun c=>OwnFrom.and (Own.from (fun s A B row hs hg hr=>⟨hs.1,hs.2.1,Qbx hs.2.2.1 hg hr,Qbx hs.2.2.2.1 hg hr,Qbx hs.2.2.2.2 hg hr⟩) _) (ownFrom_below (qR _) x7.size)) ⟨⟨r4_7,r9_7,r11_7,QaG r8_7 (QqJ key info n),.inl rfl,qR _⟩,x7⟩ (fun e=>Qcn.ext e) (fun pre A B h e=>⟨⟨Qaa h.1.1 e,Qaa h.1.2.1 e,Qaa h.1.2.2.1 e,Qaa h.1.2.2.2.1 e,h.1.2.2.2.2.1,qT h.1.2.2.2.2.2 e.size⟩,zbs h.2 e⟩) (fun pre W h=>h.1.2.2.2.2.2) (fun x g=>[(10,.pointer (some ⟨g,0,none⟩)),(23,.agg (ints .u8 (tg key info (x+1))))]) (fun x=>ints .u8 (tg key info (x+1))) 35 (fun l x W K hK=>?_) (fun l pre x g10 W hg10 hI r10 hp=>?_) (fun D ys W lD hS hI rD=>?_) (fun D c pre W lD hSp hIx rD=>?_)
 ·skip
  refine Qb7 <| Qka (ints .u8 (zae 32 0)) 35 10 rfl (Qbe l 1 _) rfl kj kj fun g301 W1 l301 e1 r301_1=>?_
  have x1:=zbv (zbr W) e1
  refine QfZ g301 _ (ints .u8 (tg key info (x+1))) 35 r301_1 rfl (Qbe l 1 _) rfl kj (Qag 35 _ _ g301 35 _ _ r301_1 rfl kj kj (isz (n:=32) kj (izT (Qfo _ _ _))) (eqsz (n:=32) (izT (qZ (n:=32))) (izT (Qfo _ _ _))) (ints_one _ _)) fun W2 p2 r301_2=>?_
  have x2:=zbu p2 x1 (qT (zbr W).size l301)
  refine Qd2 ?_
  exact hK _ _ l301 (zbu p2 (zbs (zbr W) e1) l301) r301_2
 ·skip
  obtain ⟨⟨q5,q8,q9,qO,hpl,hsz⟩,xx⟩:=hI
  have n105:g10≠g4:=by have h1:=Qa7 r4_7; omega
  have n108:g10≠g9:=by have h1:=Qa7 r9_7; omega
  have n109:g10≠g11:=by have h1:=Qa7 r11_7; omega
  have n10O:g10≠g8:=by have h1:=Qa7 r8_7; omega
  have hl1:(pre++[x]).length=pre.length+1:=by simp
  have htl:=Qfo key info x
  refine wpIn_block <| wpIn_seq_k fun K506 hK506=>QgU (QdT g8 (Obj.cells (ints .u8 (FF key info n pre)) 5) (Obj.cells (ints .u8 (FF key info n (pre++[x]))) 5)) (QdT.refl _ _ _) (fun h k=>QdT.trans h k) 6 [⟨none,[(9,none)]⟩,⟨none,[(8,none)]⟩,⟨none,[(9,none)]⟩,⟨none,[(25,some 1),(26,some 2)]⟩,⟨none,[(10,none)]⟩,⟨none,[(27,some 3),(28,some 4)]⟩] (Qbe l 1 _) rfl kj kj fun F hF=>Qli (QdT.refl _ _ _) (.int .i64 ((32*pre.length:Nat):Int)) kj kj (fun W hR=>(Qaj 3 _ g11 0 3 _ (.int .i64 ((32*pre.length:Nat):Int)) _ (zbx hR.1 (Qaa q9 (Qah _)) nb9O) rfl kj kj kj)) <| Qli (QdT.refl _ _ _) (.slice (some ⟨g8,0,none⟩) n n) kj kj (fun W hR=>(Qaj 24 _ g9 0 24 _ (.slice (some ⟨g8,0,none⟩) n n) _ (zbx hR.1 (Qaa q8 (Qah _)) nb8O) rfl kj kj kj)) <| Qli (QdT.refl _ _ _) (.int .i64 ((32*pre.length:Nat):Int)) kj kj (fun W hR=>(Qaj 3 _ g11 0 3 _ (.int .i64 ((32*pre.length:Nat):Int)) _ (zbx hR.1 (Qaa q9 (Qah _)) nb9O) rfl kj kj kj)) <| Qli (QdT.refl _ _ _) (.slice (some ⟨g8,(if n=32*pre.length then 0 else 32*pre.length),none⟩) (n-32*pre.length) (n-32*pre.length)) kj kj (fun W hR=>QgG 24 _ _ (32*pre.length) g8 n n 5 rfl kj kj kj .i64 kj (by omega) (qR _)) <| Qli (QdT.refl _ _ _) (.slice (some ⟨g10,0,none⟩) 32 32) kj kj (fun W hR=>by kernel_rfl) <| QqL (fun u W=>u=.int .i64 (((min 32 (n-32*pre.length)):Nat):Int)∧W.heap[g8]? = some (Obj.cells (ints .u8 (FF key info n (pre++[x]))) 5)) (QdT.stable _ _ _ _) kj kj (fun W hR=>?_) ?_
  ·have hsrc:RdK .u8 W.heap.size (tg key info (x+1)) (.slice (some ⟨g10,0,none⟩) 32 32) W:=Qb8 (Qfo _ _ _) (zbx hR.1 (Qaa r10 (Qah _)) n10O) (Qa7 (zbx hR.1 (Qaa r10 (Qah _)) n10O)) (by decide)
   have hoff:(if n=32*pre.length then 0 else 32*pre.length)+(n-32*pre.length)≤n:=by split <;> omega
   rcases hR.row (Qaa qO (Qah _)) with hX | hY
   ·exact QjL (Qia (k:=.u8) (e:=5) (.tmp 27) (.tmp 28) 24 24 (by rfl) kj kj (off:=(if n=32*pre.length then 0 else 32*pre.length)) (dl:=n-32*pre.length) (dc:=n-32*pre.length) (n:=(min 32 (n-32*pre.length))) (xs:=FF key info n pre) kj kj hsrc hX (by rw [QmP]; exact hoff) (by rw [Qfo]) (Qmx key info n pre x hpl))
   ·exact QjL (Qia (k:=.u8) (e:=5) (.tmp 27) (.tmp 28) 24 24 (by rfl) kj kj (off:=(if n=32*pre.length then 0 else 32*pre.length)) (dl:=n-32*pre.length) (dc:=n-32*pre.length) (n:=(min 32 (n-32*pre.length))) (xs:=FF key info n (pre++[x])) kj kj hsrc hY (by rw [QmP]; exact hoff) (by rw [Qfo]) (QnM key info n pre x hpl))
  refine Qdr (hF _ fun W1 hR=>?_)
  simp only [zaj,zak,zaf,zag,zah,zai,finE,up]
  rintro v29 ⟨rfl,rO_1⟩
  clear hF
  have q1:=ExtB.trans (zbw (ExtB.refl _ _) (Qah _)) hR.1
  have x1:=ExtB.up xx q1 b8
  refine QbZ (.int .i64 (((32*pre.length)+(min 32 (n-32*pre.length)):Nat):Int)) 30 rfl (Qbe l 1 _) rfl kj (Qam (u:=.int .i64 (zao.wrap (((32*pre.length:Nat):Int)+(((min 32 (n-32*pre.length)):Nat):Int)))) kj (congrArg (zam .i64) (i64n _ _ (by omega) (by omega)))) ?_
  have r503_1:=(zbx q1 q9 nb9O)
  refine QfZ g11 _ (#[.int .i64 (((32*pre.length)+(min 32 (n-32*pre.length)):Nat):Int)]) 3 r503_1 rfl (Qbe l 1 _) rfl kj (QbU 3 _ _ g11 0 3 _ (.int .i64 (((32*pre.length)+(min 32 (n-32*pre.length)):Nat):Int)) r503_1 rfl kj kj kj kj kj rfl) fun W2 p2 r503_2=>?_
  have x2:=zbu p2 x1 b11
  refine Qd2 <| hK506 _ _ <| wpIn_seq_k fun K507 hK507=>Qb7 <| QbZ (.int .i64 (((32*pre.length)+(min 32 (n-32*pre.length)):Nat):Int)) 31 rfl (Qbe l 1 _) rfl kj (Qaj 3 _ g11 0 3 _ (.int .i64 (((32*pre.length)+(min 32 (n-32*pre.length)):Nat):Int)) _ r503_2 rfl kj kj kj) ?_
  have r501_2:=(zbt p2 (zbx q1 q5 nb5O) nb59)
  refine QbZ (.int .i64 ((n:Nat):Int)) 32 rfl (Qbe l 1 _) rfl kj (Qaj 3 _ g4 0 3 _ (.int .i64 ((n:Nat):Int)) _ r501_2 rfl kj kj kj) <| QbZ (.bool (((((32*pre.length)+(min 32 (n-32*pre.length)):Nat):Int)==((n:Nat):Int)))) 33 rfl (Qbe l 1 _) rfl kj kj <| Qd2 <| hK507 _ _ <| Qeg (t:=((((32*pre.length)+(min 32 (n-32*pre.length)):Nat):Int)==((n:Nat):Int))) kj (fun c508=>?_) (fun c508=>?_)
  ·skip
   have hm:32*pre.length+min 32 (n-32*pre.length)=n∨32*pre.length+min 32 (n-32*pre.length)≠n:=by omega
   have hge:n≤32*(pre.length+1):=by have:=eq_of_beq c508; omega
   refine wpIn_exit ?_
   repeat (first | with_reducible refine goX1 ?_ | with_reducible refine goXo (by decide) ?_)
   have r502_1:=(zbx q1 q8 nb8O)
   have r502_2:=(zbt p2 r502_1 nb89)
   have r504_2:=(zbt p2 rO_1 nbO9)
   exact ⟨((Qi5 q1 qO).trans (Qdt p2 r503_1)),⟨rfl,by rw [hl1]; exact hge,r501_2,r502_2,r504_2⟩,x2⟩
  ·skip
   have hm:32*pre.length+min 32 (n-32*pre.length)=n∨32*pre.length+min 32 (n-32*pre.length)≠n:=by omega
   have hlt:32*(pre.length+1)<n:=by
    have h:=c508
    apply Decidable.byContradiction
    intro hc2
    have e:((32*pre.length+min 32 (n-32*pre.length):Nat):Int)=((n:Nat):Int):=by omega
    rw [e,beq_self_eq_true] at h
    exact absurd h (by decide)
   refine wpIn_skip ?_
   repeat (first | with_reducible refine goX1 ?_ | with_reducible refine goX2 ?_ | with_reducible refine goX3 ?_)
   have r502_1:=(zbx q1 q8 nb8O)
   have r502_2:=(zbt p2 r502_1 nb89)
   have r504_2:=(zbt p2 rO_1 nbO9)
   exact ⟨((Qi5 q1 qO).trans (Qdt p2 r503_1)),(Qcn.trans (Qmh q1 (by simp)) (QkS p2 (by simp))),⟨r501_2,r502_2,by rw [hl1,show 32*(pre.length+1)=32*pre.length+min 32 (n-32*pre.length) by omega]; exact r503_2,r504_2,.inr (by rw [hl1]; exact hlt),qT hsz (qT (qT (qR _) q1.2.2.2.1) (qE p2.2.2.2.1.symm))⟩,x2⟩
 ·exfalso
  obtain ⟨⟨-,-,-,-,hpl,-⟩,-⟩:=hI
  subst hS
  rw [zaZ] at hpl
  omega
 ·obtain ⟨⟨rfl,hge,q5,q8,qO⟩,xx⟩:=hIx
  obtain ⟨kR,rfl,-⟩:=hSp
  rw [zaZ] at hge
  rw [QpF key info n kR hge] at qO
  have bD:w.heap.size≤D:=qT x7.size lD
  refine wp_exit <| hK13 _ _ <| sgC fun K17 hK17=>Qac (.slice (some ⟨g8,0,none⟩) n n) 34 rfl kj (Qaj 24 _ g9 0 24 _ (.slice (some ⟨g8,0,none⟩) n n) _ q8 rfl kj kj kj) <| sg 2 kj <| sgN hK17 <| wp_ret ?_
  repeat (first | with_reducible refine goR1 ?_ | with_reducible refine goR2 ?_)
  exact (show bodyPostM _ _ _ _ _ .ret _ _ from QoN (.slice (some ⟨g8,0,none⟩) n n) (.nilIface) rfl rD (Qa4 kj) (Qa4 kj) ⟨_,rfl,QfW xx bD rD _,_,kR,rfl,hge,QdD (Qnw key info n kR hge) b8 (QfV qO rD _) (by simp only [maxLen]; omega)⟩)
end Sha
end
section
namespace Sha
open Go Go.RowKit
open Rely Auto Own
def kx (key info:List Int) (n:Nat):List Int:=(okm key info n).take n
theorem Qjj (key info:List Int) (n:Nat):∀ (k d:Nat),n≤32*k→(okm key info (k+d)).take n=(okm key info k).take n
  | k,0,_=>rfl
  | k,d+1,h=>by
    rw [show k+(d+1)=(k+d)+1 by omega,okm,zaq (by rw [Qjk]; omega),Qjj key info n k d h]
theorem Qrn (key info:List Int) (n k:Nat) (h:n≤32*k):(okm key info k).take n=kx key info n:=by
  unfold kx
  rcases Nat.le_total k n with h1 | h1
  · obtain ⟨d,rfl⟩:∃ d,n=k+d:=⟨n-k,by omega⟩
    exact (Qjj key info _ k d h).symm
  · obtain ⟨d,rfl⟩:∃ d,k=n+d:=⟨k-n,by omega⟩
    exact Qjj key info _ n d (by omega)
theorem Qmf (key info:List Int) (n:Nat):(kx key info n).length=n:=by unfold kx; rw [zat,Qjk]; omega
theorem Qin (key info:List Int):∀ k,Qaf (okm key info k)
  | 0=>fun x hx=>by cases hx
  | k+1=>bytes_app (Qin key info k) (QjC key info (k+1))
theorem Qn6 (key info:List Int) (n:Nat):Qaf (kx key info n):=fun x hx=>Qin key info n x (zav hx)
theorem Qn8 (key info:List Int) (v1 v2:Value) (B B2 n:Nat) (tc tq:TypeId) (w:World) (hc:w.heap[1]? = some (.cells (ints .u64 QbI) tc)) (hq:w.heap[0]? = some (.cells (ints .u64 Qbf) tq)) (hn:n≤8160) (hkl:key.length≤800000000) (hil:info.length≤700000000) (hkb:Qaf key) (hib:Qaf info) (hk:RdK .u8 B key v1 w) (hi:RdK .u8 B2 info v2 w) :
    Calls Tryz.prog 83 #[v1,v2,.int .i64 ((n:Nat):Int)] w (QcL w (fun v W=>∃ u,v=.tuple #[u,.nilIface]∧OwnN .u8 5 w.heap.size (kx key info n) u W)) :=
  (Qn9 key info v1 v2 B B2 n tc tq w hc hq hn hkl hil hkb hib hk hi).mono fun e W' ⟨v,h1,h2,u,k,h3,h4,h5⟩=>⟨v,h1,h2,u,h3,Qrn key info n k h4▸h5⟩
end Sha
end
section
namespace Cha
open Go Go.RowKit
open Rely Auto Own Sha
open Sha
section
variable {P : Program} {fn : Func} {R : Ending → World → Prop} {N : Nat} {L : Env} {w : World}
theorem QhY {r s t q:ResultVar} {u v x y:Value} (hr:fn.results=#[r,s,t,q]) (h:Qdf P w N L r u) (k:Qdf P w N L s v) (l:Qdf P w N L t x) (m:Qdf P w N L q y):(results fn (Qau [] N L).tmps).run P w=.ok (.tuple #[u,v,x,y]) w:=by
  rw [QdL,hr]
  simp [Qck h,Qck k,Qck l,Qck m,za3]
theorem ret4 {r s t q:ResultVar} (u v x y:Value) (hr:fn.results=#[r,s,t,q]) (h:Qdf P w N L r u) (k:Qdf P w N L s v) (l:Qdf P w N L t x) (m:Qdf P w N L q y) (z:R (.returned (.tuple #[u,v,x,y])) w):bodyPost P fn R .ret (Qau [] N L) w:=bodyPost_ret (QhY hr h k l m) rfl z
end
def rl (x : Wd) (n:Nat):Wd:=x<<<n|||x>>>(32-n)
theorem QpR (n : Nat) (hn:n<32):zab.wrap ((n:Nat):Int)=((n:Nat):Int):=by
  have:∀ z:Int,zab.wrap z=z%2^64:=fun _=>rfl
  rw [this]; omega
theorem QqA : ∀ n:Nat,n<32→bits .and .u64 ((n:Nat):Int) 31=((n:Nat):Int):=by
  have h:∀ n:Fin 32,bits .and .u64 ((n.1:Nat):Int) 31=((n.1:Nat):Int):=by decide
  intro n hn
  exact h ⟨n,hn⟩
theorem QmT (n : Nat) (hn:n<32):zab.wrap (32-((n:Nat):Int))=((32-n:Nat):Int):=by
  have:∀ z:Int,zab.wrap z=z%2^64:=fun _=>rfl
  rw [this]; omega
def qA (a b:Wd):Wd:=a+b
def qD (a b d:Wd):Wd:=rl (d^^^(a+b)) 16
def qC (a b c d:Wd):Wd:=c+qD a b d
def qB (a b c d:Wd):Wd:=rl (b^^^qC a b c d) 12
def qA2 (a b c d:Wd):Wd:=qA a b+qB a b c d
def qD2 (a b c d:Wd):Wd:=rl (qD a b d^^^qA2 a b c d) 8
def qC2 (a b c d:Wd):Wd:=qC a b c d+qD2 a b c d
def qB2 (a b c d:Wd):Wd:=rl (qB a b c d^^^qC2 a b c d) 7
theorem rotL (x : Wd) (n:Nat) (m:Int) (hm:m=(n:Int)) (hn:n<32) (w:World):Calls Tryz.prog 89 #[.int .u32 (wv x),.int .i64 m] w (Ret w (.int .u32 (wv (rl x n)))):=by
  subst hm
  refine enter 17 [(0,.int .u32 (wv x)),(1,.int .i64 ((n:Nat):Int))] Tryz.func89 rfl rfl kj rfl <| sgB kj <| sgC fun K2 hK2=>sg 1 kj <| Qac (.int .u64 (((n:Nat):Int))) 7 rfl kj (Qam (u:=.int .u64 (zab.wrap ((n:Nat):Int))) kj (congrArg (zam .u64) (QpR n hn))) <| Qac (.int .u64 (((n:Nat):Int))) 8 rfl kj (Qam (u:=.int .u64 (bits .and .u64 (((n:Nat):Int)) (31))) kj (congrArg (zam .u64) (QqA n hn))) <| sg 1 kj <| sgN hK2 <| sgC fun K3 hK3=>sg 2 kj ?_
  refine Qac (.int .u32 (wv (x<<<n))) 11 rfl kj (Qbu .shl _ _ _ _ .u32 .u64 _ _ _ rfl kj kj (QgC _ _ _ _ _ _ (by omega) (Qk1 x _ n rfl (by omega)))) <| sg 2 kj <| Qac (.int .u64 (((32-n:Nat):Int))) 14 rfl kj (Qam (u:=.int .u64 (zab.wrap (32-((n:Nat):Int)))) kj (congrArg (zam .u64) (QmT n hn))) <| Qac (.int .u32 (wv (x>>>(32-n)))) 15 rfl kj (Qbu .shr _ _ _ _ .u32 .u64 _ _ _ rfl kj kj (QdS _ _ _ _ _ _ (by omega) (Qk0 x _ (32-n) rfl (by omega)))) <| Qac (.int .u32 (wv (((x<<<n))|||((x>>>(32-n)))))) 16 rfl kj (Qam kj (congrArg (zam .u32) (w_or _ _))) <| sg 1 kj <| sgN hK3 <| wp_ret ?_
  repeat (first | with_reducible refine goR1 ?_ | with_reducible refine goR2 ?_)
  exact (show bodyPost _ _ _ .ret _ _ from ret1 (.int .u32 (wv (((x<<<n))|||((x>>>(32-n)))))) rfl (Qa4 kj) ⟨rfl,(zbr w)⟩)
theorem Qne (a b c d:Wd) (w:World):Calls Tryz.prog 144 #[.int .u32 (wv a),.int .u32 (wv b),.int .u32 (wv c),.int .u32 (wv d)] w (Ret w (.tuple #[.int .u32 (wv (qA2 a b c d)),.int .u32 (wv (qB2 a b c d)),.int .u32 (wv (qC2 a b c d)),.int .u32 (wv (qD2 a b c d))])):=by
  refine enter 44 [(0,.int .u32 (wv a)),(1,.int .u32 (wv b)),(2,.int .u32 (wv c)),(3,.int .u32 (wv d))] Tryz.func144 rfl rfl kj rfl <| sgB kj <| sgC fun K2 hK2=>sg 2 kj <| Qac (.int .u32 (wv ((a)+(b)))) 14 rfl kj (Qam kj (congrArg (zam .u32) (QeI _ _))) <| sg 1 kj <| sgN hK2 <| sgC fun K3 hK3=>sg 2 kj <| Qac (.int .u32 (wv ((d)^^^(((a)+(b)))))) 17 rfl kj (Qam kj (congrArg (zam .u32) (w_xor _ _))) ?_
  refine Qas (.int .u32 (wv (rl ((d)^^^(((a)+(b)))) 16))) 89 #[.int .u32 (wv ((d)^^^(((a)+(b))))),.int .i64 16] 18 rfl kj kj ((rotL ((d)^^^(((a)+(b)))) 16 16 rfl (by decide)) _) fun W1 e1=>sg 1 kj <| sgN hK3 <| sgC fun K4 hK4=>sg 2 kj <| Qac (.int .u32 (wv ((c)+((rl ((d)^^^(((a)+(b)))) 16))))) 21 rfl kj (Qam kj (congrArg (zam .u32) (QeI _ _))) <| sg 1 kj <| sgN hK4 <| sgC fun K5 hK5=>sg 2 kj ?_
  refine Qac (.int .u32 (wv ((b)^^^(((c)+((rl ((d)^^^(((a)+(b)))) 16))))))) 24 rfl kj (Qam kj (congrArg (zam .u32) (w_xor _ _))) <| Qas (.int .u32 (wv (rl ((b)^^^(((c)+((rl ((d)^^^(((a)+(b)))) 16))))) 12))) 89 #[.int .u32 (wv ((b)^^^(((c)+((rl ((d)^^^(((a)+(b)))) 16)))))),.int .i64 12] 25 rfl kj kj ((rotL ((b)^^^(((c)+((rl ((d)^^^(((a)+(b)))) 16))))) 12 12 rfl (by decide)) _) fun W2 e2=>sg 1 kj <| sgN hK5 <| sgC fun K6 hK6=>sg 2 kj <| Qac (.int .u32 (wv ((((a)+(b)))+((rl ((b)^^^(((c)+((rl ((d)^^^(((a)+(b)))) 16))))) 12))))) 28 rfl kj (Qam kj (congrArg (zam .u32) (QeI _ _))) <| sg 1 kj <| sgN hK6 <| sgC fun K7 hK7=>?_
  refine sg 2 kj <| Qac (.int .u32 (wv (((rl ((d)^^^(((a)+(b)))) 16))^^^(((((a)+(b)))+((rl ((b)^^^(((c)+((rl ((d)^^^(((a)+(b)))) 16))))) 12))))))) 31 rfl kj (Qam kj (congrArg (zam .u32) (w_xor _ _))) <| Qas (.int .u32 (wv (rl (((rl ((d)^^^(((a)+(b)))) 16))^^^(((((a)+(b)))+((rl ((b)^^^(((c)+((rl ((d)^^^(((a)+(b)))) 16))))) 12))))) 8))) 89 #[.int .u32 (wv (((rl ((d)^^^(((a)+(b)))) 16))^^^(((((a)+(b)))+((rl ((b)^^^(((c)+((rl ((d)^^^(((a)+(b)))) 16))))) 12)))))),.int .i64 8] 32 rfl kj kj ((rotL (((rl ((d)^^^(((a)+(b)))) 16))^^^(((((a)+(b)))+((rl ((b)^^^(((c)+((rl ((d)^^^(((a)+(b)))) 16))))) 12))))) 8 8 rfl (by decide)) _) fun W3 e3=>sg 1 kj <| sgN hK7 <| sgC fun K8 hK8=>sg 2 kj <| Qac (.int .u32 (wv ((((c)+((rl ((d)^^^(((a)+(b)))) 16))))+((rl (((rl ((d)^^^(((a)+(b)))) 16))^^^(((((a)+(b)))+((rl ((b)^^^(((c)+((rl ((d)^^^(((a)+(b)))) 16))))) 12))))) 8))))) 35 rfl kj (Qam kj (congrArg (zam .u32) (QeI _ _))) <| sg 1 kj <| sgN hK8 ?_
  refine sgC fun K9 hK9=>sg 2 kj <| Qac (.int .u32 (wv (((rl ((b)^^^(((c)+((rl ((d)^^^(((a)+(b)))) 16))))) 12))^^^(((((c)+((rl ((d)^^^(((a)+(b)))) 16))))+((rl (((rl ((d)^^^(((a)+(b)))) 16))^^^(((((a)+(b)))+((rl ((b)^^^(((c)+((rl ((d)^^^(((a)+(b)))) 16))))) 12))))) 8))))))) 38 rfl kj (Qam kj (congrArg (zam .u32) (w_xor _ _))) <| Qas (.int .u32 (wv (rl (((rl ((b)^^^(((c)+((rl ((d)^^^(((a)+(b)))) 16))))) 12))^^^(((((c)+((rl ((d)^^^(((a)+(b)))) 16))))+((rl (((rl ((d)^^^(((a)+(b)))) 16))^^^(((((a)+(b)))+((rl ((b)^^^(((c)+((rl ((d)^^^(((a)+(b)))) 16))))) 12))))) 8))))) 7))) 89 #[.int .u32 (wv (((rl ((b)^^^(((c)+((rl ((d)^^^(((a)+(b)))) 16))))) 12))^^^(((((c)+((rl ((d)^^^(((a)+(b)))) 16))))+((rl (((rl ((d)^^^(((a)+(b)))) 16))^^^(((((a)+(b)))+((rl ((b)^^^(((c)+((rl ((d)^^^(((a)+(b)))) 16))))) 12))))) 8)))))),.int .i64 7] 39 rfl kj kj ((rotL (((rl ((b)^^^(((c)+((rl ((d)^^^(((a)+(b)))) 16))))) 12))^^^(((((c)+((rl ((d)^^^(((a)+(b)))) 16))))+((rl (((rl ((d)^^^(((a)+(b)))) 16))^^^(((((a)+(b)))+((rl ((b)^^^(((c)+((rl ((d)^^^(((a)+(b)))) 16))))) 12))))) 8))))) 7 7 rfl (by decide)) _) fun W4 e4=>sg 1 kj <| sgN hK9 <| sgB kj <| wp_ret ?_
  repeat (first | with_reducible refine goR1 ?_ | with_reducible refine goR2 ?_)
  exact (show bodyPost _ _ _ .ret _ _ from ret4 (.int .u32 (wv ((((a)+(b)))+((rl ((b)^^^(((c)+((rl ((d)^^^(((a)+(b)))) 16))))) 12))))) (.int .u32 (wv (rl (((rl ((b)^^^(((c)+((rl ((d)^^^(((a)+(b)))) 16))))) 12))^^^(((((c)+((rl ((d)^^^(((a)+(b)))) 16))))+((rl (((rl ((d)^^^(((a)+(b)))) 16))^^^(((((a)+(b)))+((rl ((b)^^^(((c)+((rl ((d)^^^(((a)+(b)))) 16))))) 12))))) 8))))) 7))) (.int .u32 (wv ((((c)+((rl ((d)^^^(((a)+(b)))) 16))))+((rl (((rl ((d)^^^(((a)+(b)))) 16))^^^(((((a)+(b)))+((rl ((b)^^^(((c)+((rl ((d)^^^(((a)+(b)))) 16))))) 12))))) 8))))) (.int .u32 (wv (rl (((rl ((d)^^^(((a)+(b)))) 16))^^^(((((a)+(b)))+((rl ((b)^^^(((c)+((rl ((d)^^^(((a)+(b)))) 16))))) 12))))) 8))) rfl (Qa4 kj) (Qa4 kj) (Qa4 kj) (Qa4 kj) ⟨rfl,(zbv (zbv (zbv (zbv (zbr w) e1) e2) e3) e4)⟩)
theorem Qj2 (nonce : List Int) (v:Value) (B:Nat) (number:Int) (w:World) (hn:RdK .u8 B nonce v w) (h:nonce.length=12) (h1:0≤number) (h2:number≤4294967295):Calls Tryz.prog 118 #[v,.int .i64 number] w (Ret w (.nilIface)):=by
  obtain ⟨a_n,c_n,rfl,-⟩:=id hn
  refine enter 16 [(0,.slice a_n nonce.length c_n),(1,.int .i64 number)] Tryz.func118 rfl rfl kj rfl <| sgB kj <| wp_seq_k fun K2 hK2=>sgC fun K3 hK3=>sg 2 kj <| Qac (.bool false) 7 rfl kj (Qam (u:=.bool ((((nonce.length:Nat):Int) != 12))) kj (congrArg zbd (by simp; omega))) ?_
  refine sgN hK3 <| cond_false kj <| wp_skip <| hK2 _ _ <| wp_seq_k fun K4 hK4=>sgC fun K5 hK5=>sg 1 kj <| Qac (.bool false) 10 rfl kj (Qam (u:=.bool (decide (number<0))) kj (congrArg zbd (decide_eq_false (by omega)))) <| sg 2 kj <| Qac (.bool false) 13 rfl kj (Qam (u:=.bool (decide (number>4294967295))) kj (congrArg zbd (decide_eq_false (by omega)))) ?_
  refine sg 1 kj <| sgN hK5 <| cond_false kj <| wp_skip <| hK4 _ _ <| sgB kj <| wp_ret ?_
  repeat (first | with_reducible refine goR1 ?_ | with_reducible refine goR2 ?_)
  exact (show bodyPost _ _ _ .ret _ _ from ret1 (.nilIface) rfl (Qa4 kj) ⟨rfl,(zbr w)⟩)
theorem QfD {k : IntKind} {B:Nat} {ys:List Int} {a:Option Addr} {n c:Nat} {W:World} (h:RdK k B ys (.slice a n c) W) (h0:0<ys.length):∃ g o,a=some ⟨g,o,none⟩∧g<B∧g<W.heap.size∧∀ i,i<ys.length→W.cell? ⟨g,o+i,none⟩=some (.int k (nth ys i)):=by
  obtain ⟨a',cap',e,h2,h3,h4,h5⟩:=h
  simp only [za9.injEq] at e
  obtain ⟨rfl,-,-⟩:=e
  rcases h5 with h5 | ⟨g,o,q1,q2,q3,q4⟩
  · rw [h5] at h0; simp at h0
  · exact ⟨g,o,q1,q2,q3,q4⟩
theorem QnW (b : List Int) (i:Nat):zaa.wrap (nth b i)=wv (zbe 32 (nth b i)):=by rw [Sha.wrap32,QfR]
def le4 (b : List Int):Wd:=zbe 32 (nth b 0)|||zbe 32 (nth b 1)<<<8|||zbe 32 (nth b 2)<<<16|||zbe 32 (nth b 3)<<<24
theorem QpN (b : List Int) (v:Value) (B:Nat) (w:World) (hb:RdK .u8 B b v w) (hl:b.length=4):Calls Tryz.prog 143 #[v] w (Ret w (.int .u32 (wv (le4 b)))):=by
  obtain ⟨a_b,c_b,rfl,-⟩:=id hb
  obtain ⟨gb,ob,rfl,-,hgb,hcb⟩:=QfD hb (by omega)
  refine enter 25 [(0,.slice (some ⟨gb,ob,none⟩) b.length c_b)] Tryz.func143 rfl rfl kj rfl <| sgB kj <| wp_seq_k fun K2 hK2=>Qba 21 [⟨none,[(0,none)]⟩,⟨none,[(3,some 0)]⟩,⟨none,[(4,some 1)]⟩,⟨none,[(5,some 2)]⟩,⟨none,[(0,none)]⟩,⟨none,[(7,some 4)]⟩,⟨none,[(8,some 5)]⟩,⟨none,[(9,some 6)]⟩,⟨none,[(10,some 7)]⟩,⟨none,[(6,some 3),(11,some 8)]⟩,⟨none,[(0,none)]⟩,⟨none,[(13,some 10)]⟩,⟨none,[(14,some 11)]⟩,⟨none,[(15,some 12)]⟩,⟨none,[(16,some 13)]⟩,⟨none,[(12,some 9),(17,some 14)]⟩,⟨none,[(0,none)]⟩,⟨none,[(19,some 16)]⟩,⟨none,[(20,some 17)]⟩,⟨none,[(21,some 18)]⟩,⟨none,[(22,some 19)]⟩] kj kj fun F hF=>Qa6 (Qar _) (.slice (some ⟨gb,ob,none⟩) b.length c_b) kj kj (fun _=>kj) <| Qa6 (Qar _) (.pointer (some ⟨gb,ob+0,none⟩)) kj kj (fun W=>(QcQ 24 _ _ .i64 (0) gb ob b.length c_b 5 rfl kj kj kj kj (by omega))) <| QcF (Qar _) (.int .u8 (nth (b) (0))) kj kj (fun W hR=>(Qb5 5 _ _ (.int .u8 (nth (b) (0))) ((Below.cell (zbs (zbs (zbr w) (Qah _)) hR) hgb).trans (hcb 0 (by omega))) rfl kj kj)) <| Qa6 (Qar _) (.int .u32 (wv (zbe 32 (nth b 0)))) kj kj (fun W=>(Qam (u:=.int .u32 (zaa.wrap (nth (b) (0)))) kj (congrArg (zam .u32) (QnW b 0)))) <| Qa6 (Qar _) (.slice (some ⟨gb,ob,none⟩) b.length c_b) kj kj (fun _=>kj) <| Qa6 (Qar _) (.pointer (some ⟨gb,ob+1,none⟩)) kj kj (fun W=>(QcQ 24 _ _ .i64 (1) gb ob b.length c_b 5 rfl kj kj kj kj (by omega))) ?_
  refine QcF (Qar _) (.int .u8 (nth (b) (1))) kj kj (fun W hR=>(Qb5 5 _ _ (.int .u8 (nth (b) (1))) ((Below.cell (zbs (zbs (zbr w) (Qah _)) hR) hgb).trans (hcb 1 (by omega))) rfl kj kj)) <| Qa6 (Qar _) (.int .u32 (wv (zbe 32 (nth b 1)))) kj kj (fun W=>(Qam (u:=.int .u32 (zaa.wrap (nth (b) (1)))) kj (congrArg (zam .u32) (QnW b 1)))) <| Qa6 (Qar _) (.int .u32 (wv (zbe 32 (nth b 1)<<<8))) kj kj (fun W=>(Qbu .shl _ _ _ _ .u32 .u64 _ _ _ rfl kj kj (QgC _ _ _ _ _ _ (by decide) (Qk1 _ _ 8 rfl (by decide))))) <| Qa6 (Qar _) (.int .u32 (wv (((zbe 32 (nth b 0)))|||((zbe 32 (nth b 1)<<<8))))) kj kj (fun W=>(Qam kj (congrArg (zam .u32) (w_or _ _)))) <| Qa6 (Qar _) (.slice (some ⟨gb,ob,none⟩) b.length c_b) kj kj (fun _=>kj) <| Qa6 (Qar _) (.pointer (some ⟨gb,ob+2,none⟩)) kj kj (fun W=>(QcQ 24 _ _ .i64 (2) gb ob b.length c_b 5 rfl kj kj kj kj (by omega))) <| QcF (Qar _) (.int .u8 (nth (b) (2))) kj kj (fun W hR=>(Qb5 5 _ _ (.int .u8 (nth (b) (2))) ((Below.cell (zbs (zbs (zbr w) (Qah _)) hR) hgb).trans (hcb 2 (by omega))) rfl kj kj)) <| Qa6 (Qar _) (.int .u32 (wv (zbe 32 (nth b 2)))) kj kj (fun W=>(Qam (u:=.int .u32 (zaa.wrap (nth (b) (2)))) kj (congrArg (zam .u32) (QnW b 2)))) <| Qa6 (Qar _) (.int .u32 (wv (zbe 32 (nth b 2)<<<16))) kj kj (fun W=>(Qbu .shl _ _ _ _ .u32 .u64 _ _ _ rfl kj kj (QgC _ _ _ _ _ _ (by decide) (Qk1 _ _ 16 rfl (by decide))))) <| Qa6 (Qar _) (.int .u32 (wv (((((zbe 32 (nth b 0)))|||((zbe 32 (nth b 1)<<<8))))|||((zbe 32 (nth b 2)<<<16))))) kj kj (fun W=>(Qam kj (congrArg (zam .u32) (w_or _ _)))) ?_
  refine Qa6 (Qar _) (.slice (some ⟨gb,ob,none⟩) b.length c_b) kj kj (fun _=>kj) <| Qa6 (Qar _) (.pointer (some ⟨gb,ob+3,none⟩)) kj kj (fun W=>(QcQ 24 _ _ .i64 (3) gb ob b.length c_b 5 rfl kj kj kj kj (by omega))) <| QcF (Qar _) (.int .u8 (nth (b) (3))) kj kj (fun W hR=>(Qb5 5 _ _ (.int .u8 (nth (b) (3))) ((Below.cell (zbs (zbs (zbr w) (Qah _)) hR) hgb).trans (hcb 3 (by omega))) rfl kj kj)) <| Qa6 (Qar _) (.int .u32 (wv (zbe 32 (nth b 3)))) kj kj (fun W=>(Qam (u:=.int .u32 (zaa.wrap (nth (b) (3)))) kj (congrArg (zam .u32) (QnW b 3)))) <| Qa6 (Qar _) (.int .u32 (wv (zbe 32 (nth b 3)<<<24))) kj kj (fun W=>(Qbu .shl _ _ _ _ .u32 .u64 _ _ _ rfl kj kj (QgC _ _ _ _ _ _ (by decide) (Qk1 _ _ 24 rfl (by decide))))) <| Qdr (hF _ fun W1 e1=>?_)
  simp only [zaj,zak,zaf,zag,zah,zai,finE,up]
  clear hF
  refine Qac (.int .u32 (wv (((((((zbe 32 (nth b 0)))|||((zbe 32 (nth b 1)<<<8))))|||((zbe 32 (nth b 2)<<<16))))|||((zbe 32 (nth b 3)<<<24))))) 24 rfl kj (Qam kj (congrArg (zam .u32) (w_or _ _))) <| sg 1 kj <| sgN hK2 <| wp_ret ?_
  repeat (first | with_reducible refine goR1 ?_ | with_reducible refine goR2 ?_)
  exact (show bodyPost _ _ _ .ret _ _ from ret1 (.int .u32 (wv (((((((zbe 32 (nth b 0)))|||((zbe 32 (nth b 1)<<<8))))|||((zbe 32 (nth b 2)<<<16))))|||((zbe 32 (nth b 3)<<<24))))) rfl (Qa4 kj) ⟨rfl,(zbv (zbr w) e1)⟩)
end Cha
end
section
namespace Cha
open Go Go.RowKit
open Rely Auto Own Sha
open Sha
theorem QkA {P : Program} {ρ:Operand→Value} {o:Oper} {w:World} (t:TypeId) (x y z:Operand) (l h g off len cap:Nat) (e:TypeId) (ho:o.op=.slice t x (some y) (some z) none) (hx:ρ x=.slice (some ⟨g,off,none⟩) len cap)
    (hu:P.underlying t=some (.slice e)) (hs:(P.info? e).map (·.size)=some 1) (hy:ρ y=.int .i64 (l:Int)) (hz:ρ z=.int .i64 (h:Int)) (h1:l≤h) (h2:h≤cap) (h3:l<cap) :
    (execOp ρ o).run P w=.ok (.value (.slice (some ⟨g,off+l,none⟩) (h-l) (cap-l))) w:=by
  cases hq:P.info? e with
  | none=>simp [hq] at hs
  | some i =>
    have hs':i.size=1:=by simpa [hq] using hs
    have hadd:(⟨g,off,none⟩:Addr).add l=⟨g,off+l,none⟩:=WideShapes.add_plain ..
    have hne:¬ cap=l:=by omega
    unfold execOp
    simp [ho,hx,hy,hz,Instr.sliceAt,Instr.slice,Instr.sliceBounds,run_sliceBound,run_underlying hu,sizeOf,typeInfo,hq,hs',h1,h2,hadd,hne]
def sub4 (b : List Int) (i:Nat):List Int:=(b.drop (4*i)).take 4
theorem Qhk (b : List Int) (i:Nat) (h:4*i+4≤b.length):(sub4 b i).length=4:=by
  unfold sub4
  rw [zat,zar]; omega
theorem QmW (b : List Int) (i j:Nat) (h:j<4):nth (sub4 b i) j=nth b (4*i+j):=by
  unfold nth sub4
  rw [zaR,zaR,zbf,if_pos h,zbg]
theorem Ql9 {B g o c:Nat} {xs:List Int} {W:World} (hx:RdK .u8 B xs (.slice (some ⟨g,o,none⟩) xs.length c) W) (i:Nat) (hi:4*i+4≤xs.length):RdK .u8 B (sub4 xs i) (.slice (some ⟨g,o+4*i,none⟩) 4 (c-4*i)) W:=by
  obtain ⟨a,cap,e,h2,h3,h4,h5⟩:=hx
  simp only [za9.injEq] at e
  obtain ⟨rfl,-,rfl⟩:=e
  have hl:=Qhk xs i hi
  rcases h5 with h5 | ⟨g',o',q1,q2,q3,q4⟩
  · rw [h5] at hi; simp at hi
  · obtain ⟨rfl,rfl⟩:g=g'∧o=o':=by simpa using q1
    refine ⟨some ⟨g,o+4*i,none⟩,c-4*i,by rw [hl],by omega,by omega,(fun h=>by cases h),.inr ⟨g,o+4*i,rfl,q2,q3,fun j hj=>?_⟩⟩
    rw [QmW _ _ _ (by omega),Nat.add_assoc]
    exact q4 _ (by omega)
set_option maxRecDepth 100000 in
theorem Qok (key nonce:List Int) (v:Value) (B:Nat) (th:TypeId) (w:World) (hh:w.heap[2]? = some (.cells (ints .u32 qH) th)) (hkl:key.length=32) (hn:RdK .u8 B nonce v w) (hnl:nonce.length=12):Calls Tryz.prog 130 #[.agg (ints .u8 key),v] w (Ret w (.agg (ints .u32 [1634760805,857760878,2036477234,1797285236,wv (le4 (sub4 key 0)),wv (le4 (sub4 key 1)),wv (le4 (sub4 key 2)),wv (le4 (sub4 key 3)),wv (le4 (sub4 key 4)),wv (le4 (sub4 key 5)),wv (le4 (sub4 key 6)),wv (le4 (sub4 key 7)),0,wv (le4 (sub4 nonce 0)),wv (le4 (sub4 nonce 1)),wv (le4 (sub4 nonce 2))]))):=by
 obtain ⟨a_n,c_n,rfl,hnc,-,-,-⟩:=id hn
 obtain ⟨gn,on,rfl,-,hgn,hcn⟩:=QfD hn (by omega)
 obtain ⟨T_,hT⟩:∃ z:List Int,z=[1634760805,857760878,2036477234,1797285236,wv (le4 (sub4 key 0)),wv (le4 (sub4 key 1)),wv (le4 (sub4 key 2)),wv (le4 (sub4 key 3)),wv (le4 (sub4 key 4)),wv (le4 (sub4 key 5)),wv (le4 (sub4 key 6)),wv (le4 (sub4 key 7)),0,wv (le4 (sub4 nonce 0)),wv (le4 (sub4 nonce 1)),wv (le4 (sub4 nonce 2))]:=⟨_,rfl⟩
 have hTl:T_.length=16:=by rw [hT]; rfl
 have hTh:∀ i,i<4→nth qH i=nth T_ i:=fun i hi=>by rw [hT]; rcases (show i=0∨i=1∨i=2∨i=3 by omega) with rfl | rfl | rfl | rfl <;> rfl
 have hTk:∀ i,i<8→nth T_ (4+i)=wv (le4 (sub4 key i)):=fun i hi=>by rw [hT]; rcases (show i=0∨i=1∨i=2∨i=3∨i=4∨i=5∨i=6∨i=7 by omega) with rfl | rfl | rfl | rfl | rfl | rfl | rfl | rfl <;> rfl
 have hTn:∀ i,i<3→nth T_ (13+i)=wv (le4 (sub4 nonce i)):=fun i hi=>by rw [hT]; rcases (show i=0∨i=1∨i=2 by omega) with rfl | rfl | rfl <;> rfl
 have hT12:fill T_ 16 12=fill T_ 16 13:=by rw [hT]; rfl
 refine enter 49 [(0,.agg (ints .u8 (key))),(1,.slice (some ⟨gn,on,none⟩) nonce.length c_n)] Tryz.func130 rfl rfl kj rfl <| sgC fun K2 hK2=>Qak (ints .u8 (key)) 23 2 rfl kj kj fun g3 W1 l3 e1 r3_1=>?_
 have x1:=zbv (zbr w) e1
 have b3:=qT (zbr w).size l3
 refine Qak (ints .u32 (zae 16 0)) 193 4 rfl kj kj fun g4 W2 l4 e2 r4_2=>?_
 have x2:=zbv x1 e2
 refine sgN hK2 <| sgC fun K5 hK5=>Qak (ints .u32 (zae 16 0)) 193 5 rfl kj kj fun g6 W3 l6 e3 r6_3=>?_
 have b6:=qT x2.size l6
 refine sgN hK5 <| wp_seq_k fun K7 hK7=>sgC fun K8 hK8=>Qac (.agg (ints .u32 (qH))) 10 rfl kj (Qae 205 _ 2 th _ _ (Qaa (Qaa (Qaa hh e1) e2) e3) rfl kj kj (isz (n:=4) kj kj)) <| sg 1 kj <| sgN hK8 <| wp_block <| QaT (fun (s1:Nat)=>[(1,.slice (some ⟨gn,on,none⟩) nonce.length c_n),(2,.pointer (some ⟨g3,0,none⟩)),(4,.pointer (some ⟨g4,0,none⟩)),(5,.pointer (some ⟨g6,0,none⟩)),(10,.agg (ints .u32 (qH))),(11,.int .i64 ((s1:Nat):Int))]) (fun (s1:Nat) W=>(s1≤4)∧(W.heap[g6]? = some (.cells (ints .u32 (fill T_ 16 (s1))) 193))∧(Qa0 [g6] W3 W)∧(Ext w W)) (fun (s1:Nat)=>4-s1) 0 ⟨kj,kj,kj,kj,kj,kj,trivial⟩ ⟨(zal _),(QaG r6_3 (Qev T_ 16).symm),(zbz [g6] W3),(zbv x2 e3)⟩ fun s1 X1 V1 hI1=>?_
 obtain ⟨i,hs1⟩:∃ z,z=s1:=⟨_,rfl⟩
 subst hs1
 obtain ⟨hi,q6_1,kk1,xx1⟩:=hI1
 replace hi:i≤4:=hi
 replace q6_1:V1.heap[g6]? = some (.cells (ints .u32 (fill T_ 16 (i))) 193):=q6_1
 replace kk1:Qa0 [g6] W3 V1:=kk1
 replace xx1:Ext w V1:=xx1
 have q4:=kk1
 refine sgB kj <| wp_seq_k fun K10 hK10=>QaC (t:=decide (((i:Nat):Int)<4)) kj (fun c11=>?_) (fun c11=>?_)
 ·skip
  have hlt12:i<4:=by have:=of_decide_eq_true c11; omega
  refine wp_skip <| hK10 _ _ <| wp_seq_k fun K12 hK12=>wp_block <| sgC fun K13 hK13=>sg 1 kj <| Qac (.int .u32 (nth T_ i)) 14 rfl kj (QaB 205 _ _ .i64 .u32 (qH) i 4 110 (nth T_ i) rfl kj kj kj kj kj rfl (by omega) (hTh i hlt12)) <| sg 2 kj <| sgN hK13 <| Qao ?_
  refine sg 2 kj <| Qac (.pointer (some ⟨g6,i,none⟩)) 17 rfl kj (Qa8 _ _ _ .i64 (i) _ 16 110 rfl kj kj kj kj (by omega)) <| Qai g6 _ (ints .u32 ((fill T_ 16 (i)).set i (nth T_ i))) 193 q6_1 rfl kj (Qa1 110 _ _ g6 i 193 _ _ q6_1 rfl kj kj kj (zan (by omega) (QbX hTl (by omega)).symm)) fun W5 p5 r6_5=>Qaz <| hK12 _ _ <| Qao <| Qac (.int .i64 ((i+1:Nat):Int)) 18 rfl kj (Qam (u:=.int .i64 (zao.wrap (((i:Nat):Int)+1))) kj (congrArg (zam .i64) (i64n _ _ (by omega) (by omega)))) <| sg 1 kj <| Qaz ?_
  repeat (first | with_reducible refine goX1 ?_ | with_reducible refine goX2 ?_ | with_reducible refine goX3 ?_)
  exact QaL (i+1) ⟨kj,kj,kj,kj,kj,kj,trivial⟩ ⟨(by omega),(QaG r6_5 (Qdq hTl (by omega))),(zb2 q4 p5 (.inl (by simp))),(zbu p5 xx1 b6)⟩ (by show 4-(i+1)<4-i; omega)
 ·skip
  have heq12:i=4:=by have:=of_decide_eq_false c11; omega
  refine wp_exit <| hK7 _ _ <| wp_seq_k fun K14 hK14=>sgB kj <| wp_block <| QaT (fun (s2:Nat)=>[(1,.slice (some ⟨gn,on,none⟩) nonce.length c_n),(2,.pointer (some ⟨g3,0,none⟩)),(4,.pointer (some ⟨g4,0,none⟩)),(5,.pointer (some ⟨g6,0,none⟩)),(10,.agg (ints .u32 (qH))),(19,.int .i64 ((s2:Nat):Int))]) (fun (s2:Nat) W=>(s2≤8)∧(W.heap[g6]? = some (.cells (ints .u32 (fill T_ 16 (4+s2))) 193))∧(Qa0 [g6] V1 W)∧(Ext w W)) (fun (s2:Nat)=>8-s2) 0 ⟨kj,kj,kj,kj,kj,kj,trivial⟩ ⟨(zal _),(QaG q6_1 (by rw [heq12])),(zbz [g6] V1),xx1⟩ fun s2 X2 V2 hI2=>?_
  obtain ⟨i,hs2⟩:∃ z,z=s2:=⟨_,rfl⟩
  subst hs2
  obtain ⟨hi,q6_2,kk2,xx2⟩:=hI2
  replace hi:i≤8:=hi
  replace q6_2:V2.heap[g6]? = some (.cells (ints .u32 (fill T_ 16 (4+i))) 193):=q6_2
  replace kk2:Qa0 [g6] V1 V2:=kk2
  replace xx2:Ext w V2:=xx2
  have q5:=kk2
  refine sgB kj <| wp_seq_k fun K17 hK17=>QaC (t:=decide (((i:Nat):Int)<8)) kj (fun c18=>?_) (fun c18=>?_)
  ·skip
   have hlt20:i<8:=by have:=of_decide_eq_true c18; omega
   refine wp_skip <| hK17 _ _ <| wp_seq_k fun K19 hK19=>wp_block <| sgB kj <| Qao <| sg 1 kj <| Qac (.int .i64 ((4+i:Nat):Int)) 23 rfl kj (Qam (u:=.int .i64 (zao.wrap (4+((i:Nat):Int)))) kj (congrArg (zam .i64) (i64n _ _ (by omega) (by omega)))) <| sg 1 kj <| Qac (.int .i64 ((4*i:Nat):Int)) 25 rfl kj (Qam (u:=.int .i64 (zao.wrap (4*((i:Nat):Int)))) kj (congrArg (zam .i64) (i64n _ _ (by omega) (by omega)))) ?_
   refine sg 1 kj <| Qac (.int .i64 ((4*i:Nat):Int)) 27 rfl kj (Qam (u:=.int .i64 (zao.wrap (4*((i:Nat):Int)))) kj (congrArg (zam .i64) (i64n _ _ (by omega) (by omega)))) <| Qac (.int .i64 (((4*i)+4:Nat):Int)) 28 rfl kj (Qam (u:=.int .i64 (zao.wrap (((4*i:Nat):Int)+4))) kj (congrArg (zam .i64) (i64n _ _ (by omega) (by omega)))) <| Qac (.slice (some ⟨g3,0+4*i,none⟩) 4 (32-4*i)) 29 rfl kj (Eq.trans (Qct 23 _ _ _ (4*i) (4*i+4) 32 g3 0 5 rfl kj kj kj ⟨.i64,by kernel_rfl⟩ ⟨.i64,by kernel_rfl⟩ (by omega) (by omega) (by omega)) (by rw [show 4*i+4-4*i=4 by omega])) ?_
   have r3_2:=(Qaa r3_1 e2)
   have r3_5:=(zb0 q5 (zb0 q4 (Qaa r3_2 e3) (Qbd (Qad r3_2 l6) Qbr)) (Qbd (Qad r3_2 l6) Qbr))
   refine Qas (.int .u32 (wv (le4 (sub4 key i)))) 143 #[.slice (some ⟨g3,0+4*i,none⟩) 4 (32-4*i)] 30 rfl kj kj ((QpN (sub4 key i) _ _ _ (Ql9 (xs:=key) (by rw [hkl]; exact Qb8 (xs:=key) (n:=32) hkl r3_5 (Qa7 r3_5) (by decide)) i (by omega)) (Qhk _ _ (by omega)))) fun W6 e6=>?_
   refine Qac (.pointer (some ⟨g6,4+i,none⟩)) 31 rfl kj (Qa8 _ _ _ .i64 (4+i) _ 16 110 rfl kj kj kj kj (by omega)) ?_
   have r6_6:=(Qaa q6_2 e6)
   refine Qai g6 _ (ints .u32 ((fill T_ 16 (4+i)).set (4+i) (wv (le4 (sub4 key i))))) 193 r6_6 rfl kj (Qa1 110 _ _ g6 (4+i) 193 _ _ r6_6 rfl kj kj kj (zan (by omega) (QbX hTl (by omega)).symm)) fun W7 p7 r6_7=>?_
   have x7:=zbu p7 (zbv xx2 e6) b6
   refine Qaz <| hK19 _ _ <| Qao <| Qac (.int .i64 ((i+1:Nat):Int)) 32 rfl kj (Qam (u:=.int .i64 (zao.wrap (((i:Nat):Int)+1))) kj (congrArg (zam .i64) (i64n _ _ (by omega) (by omega)))) <| sg 1 kj <| Qaz ?_
   repeat (first | with_reducible refine goX1 ?_ | with_reducible refine goX2 ?_ | with_reducible refine goX3 ?_)
   exact QaL (i+1) ⟨kj,kj,kj,kj,kj,kj,trivial⟩ ⟨(by omega),(QaG r6_7 (by rw [←hTk i hlt20]; exact Qdq hTl (by omega))),(zb2 (zb1 q5 e6) p7 (.inl (by simp))),x7⟩ (by show 8-(i+1)<8-i; omega)
  ·skip
   have heq20:i=8:=by have:=of_decide_eq_false c18; omega
   refine wp_exit <| hK14 _ _ <| wp_seq_k fun K21 hK21=>sgB kj <| wp_block <| QaT (fun (s3:Nat)=>[(1,.slice (some ⟨gn,on,none⟩) nonce.length c_n),(2,.pointer (some ⟨g3,0,none⟩)),(4,.pointer (some ⟨g4,0,none⟩)),(5,.pointer (some ⟨g6,0,none⟩)),(10,.agg (ints .u32 (qH))),(33,.int .i64 ((s3:Nat):Int))]) (fun (s3:Nat) W=>(s3≤3)∧(W.heap[g6]? = some (.cells (ints .u32 (fill T_ 16 (13+s3))) 193))∧(Qa0 [g6] V2 W)∧(Ext w W)) (fun (s3:Nat)=>3-s3) 0 ⟨kj,kj,kj,kj,kj,kj,trivial⟩ ⟨(zal _),(QaG q6_2 (by rw [heq20]; exact hT12)),(zbz [g6] V2),xx2⟩ fun s3 X3 V3 hI3=>?_
   obtain ⟨i,hs3⟩:∃ z,z=s3:=⟨_,rfl⟩
   subst hs3
   obtain ⟨hi,q6_3,kk3,xx3⟩:=hI3
   replace hi:i≤3:=hi
   replace q6_3:V3.heap[g6]? = some (.cells (ints .u32 (fill T_ 16 (13+i))) 193):=q6_3
   replace kk3:Qa0 [g6] V2 V3:=kk3
   replace xx3:Ext w V3:=xx3
   have q6:=kk3
   refine sgB kj <| wp_seq_k fun K24 hK24=>QaC (t:=decide (((i:Nat):Int)<3)) kj (fun c25=>?_) (fun c25=>?_)
   ·skip
    have hlt34:i<3:=by have:=of_decide_eq_true c25; omega
    refine wp_skip <| hK24 _ _ <| wp_seq_k fun K26 hK26=>wp_block <| sgB kj <| Qao <| sg 1 kj <| Qac (.int .i64 ((13+i:Nat):Int)) 37 rfl kj (Qam (u:=.int .i64 (zao.wrap (13+((i:Nat):Int)))) kj (congrArg (zam .i64) (i64n _ _ (by omega) (by omega)))) <| sg 2 kj <| Qac (.int .i64 ((4*i:Nat):Int)) 40 rfl kj (Qam (u:=.int .i64 (zao.wrap (4*((i:Nat):Int)))) kj (congrArg (zam .i64) (i64n _ _ (by omega) (by omega)))) ?_
    refine sg 1 kj <| Qac (.int .i64 ((4*i:Nat):Int)) 42 rfl kj (Qam (u:=.int .i64 (zao.wrap (4*((i:Nat):Int)))) kj (congrArg (zam .i64) (i64n _ _ (by omega) (by omega)))) <| Qac (.int .i64 (((4*i)+4:Nat):Int)) 43 rfl kj (Qam (u:=.int .i64 (zao.wrap (((4*i:Nat):Int)+4))) kj (congrArg (zam .i64) (i64n _ _ (by omega) (by omega)))) <| Qac (.slice (some ⟨gn,on+4*i,none⟩) 4 (c_n-4*i)) 44 rfl kj ((QkA 24 _ _ _ (4*i) (4*i+4) gn on nonce.length c_n 5 rfl kj kj kj kj kj (by omega) (by omega) (by omega)).trans (by rw [show 4*i+4-4*i=4 by omega])) <| Qas (.int .u32 (wv (le4 (sub4 nonce i)))) 143 #[.slice (some ⟨gn,on+4*i,none⟩) 4 (c_n-4*i)] 45 rfl kj kj ((QpN (sub4 nonce i) _ _ _ (Ql9 (xs:=nonce) (hn.ext xx3) i (by omega)) (Qhk _ _ (by omega)))) fun W7 e7=>?_
    have x7:=zbv xx3 e7
    refine Qac (.pointer (some ⟨g6,13+i,none⟩)) 46 rfl kj (Qa8 _ _ _ .i64 (13+i) _ 16 110 rfl kj kj kj kj (by omega)) ?_
    have r6_7:=(Qaa q6_3 e7)
    refine Qai g6 _ (ints .u32 ((fill T_ 16 (13+i)).set (13+i) (wv (le4 (sub4 nonce i))))) 193 r6_7 rfl kj (Qa1 110 _ _ g6 (13+i) 193 _ _ r6_7 rfl kj kj kj (zan (by omega) (QbX hTl (by omega)).symm)) fun W8 p8 r6_8=>Qaz <| hK26 _ _ <| Qao <| Qac (.int .i64 ((i+1:Nat):Int)) 47 rfl kj (Qam (u:=.int .i64 (zao.wrap (((i:Nat):Int)+1))) kj (congrArg (zam .i64) (i64n _ _ (by omega) (by omega)))) <| sg 1 kj <| Qaz ?_
    repeat (first | with_reducible refine goX1 ?_ | with_reducible refine goX2 ?_ | with_reducible refine goX3 ?_)
    exact QaL (i+1) ⟨kj,kj,kj,kj,kj,kj,trivial⟩ ⟨(by omega),(QaG r6_8 (by rw [←hTn i hlt34]; exact Qdq hTl (by omega))),(zb2 (zb1 q6 e7) p8 (.inl (by simp))),(zbu p8 x7 b6)⟩ (by show 3-(i+1)<3-i; omega)
   ·skip
    have heq34:i=3:=by have:=of_decide_eq_false c25; omega
    have r6_6_28:V3.heap[g6]? = some (.cells (ints .u32 (T_)) 193):=QaG q6_3 (by rw [heq34]; exact QdQ hTl)
    refine wp_exit <| hK21 _ _ <| sgC fun K29 hK29=>Qac (.agg (ints .u32 (T_))) 48 rfl kj (Qae 193 _ g6 193 _ _ r6_6_28 rfl kj kj (isz (n:=16) kj (izT hTl))) ?_
    have r4_6:=(zb0 q6 (zb0 q5 (zb0 q4 (Qaa r4_2 e3) (Qbd (Qad r4_2 l6) Qbr)) (Qbd (Qad r4_2 l6) Qbr)) (Qbd (Qad r4_2 l6) Qbr))
    refine Qai g4 _ (ints .u32 (T_)) 193 r4_6 rfl kj (Qag 193 _ _ g4 193 _ _ r4_6 rfl kj kj (isz (n:=16) kj (izT hTl)) (eqsz (n:=16) (izT (qZ (n:=16))) (izT hTl)) (ints_one _ _)) fun W7 p7 r4_7=>?_
    have x7:=zbu p7 xx3 (qT x1.size l4)
    refine sgN hK29 <| wp_ret ?_
    repeat (first | with_reducible refine goR1 ?_ | with_reducible refine goR2 ?_)
    exact (show bodyPost _ _ _ .ret _ _ from ret1 (.agg (ints .u32 (T_))) rfl (QaU g4 193 _ r4_7 kj kj (isz (n:=16) kj (izT hTl))) ⟨by rw [hT],x7⟩)
end Cha
end
section
namespace Cha
open Go Go.RowKit
open Rely Auto Own Sha
open Sha
end Cha
end
section
namespace Auto
open Go Go.RowKit
open Rely
section
variable {P : Program} {Rd : World → Prop} {w0 : World} {base N : Nat} {L : Env} {U : List Nat} {F : List Kn → Prop} {o : Oper} {os : List Oper} {s : Src} {ss : List Src} {C : List Kn}
theorem QaY (v : Value) (hs:seen C o s=true) (hg:gOk s.guard (get (envS N L (C.map Kn.val) s.reads))=true) (hd:o.dst.isNone=false)
    (h:∀ W,(execOp (Rely.look (get (envS N L (C.map Kn.val) s.reads))) o).run P W=.ok (.value v) W)
    (hk:QcH P Rd w0 base N L U F os ss (C++[.is v])):QcH P Rd w0 base N L U F (o::os) (s::ss) C :=
  ⟨.is v,(fun hn=>by rw [hd] at hn; cases hn),(fun _=>by
    split
    · exact ⟨hs,v,rfl,fun W _=>Qc9 hg (h W)⟩
    · intro ρ W hR hh
      rw [QcP hs hh]
      refine Qc9 hg ?_
      unfold Qb4
      rw [Qdv hs hh,h W]
      exact ⟨zbr _,rfl⟩),hk⟩
theorem Qem (v : Value) (f:FuncId) (args:Array Value) (hu:U.contains C.length=false) (hs:seen C o s=true) (hg:gOk s.guard (get (envS N L (C.map Kn.val) s.reads))=true) (hd:o.dst.isNone=false)
    (h:∀ W,(execOp (Rely.look (get (envS N L (C.map Kn.val) s.reads))) o).run P W=.ok (.enter f args) W) (hc:∀ W,Ext w0 W→Calls P f args W (Ret W v))
    (hk:QcH P Rd w0 base N L U F os ss (C++[.is v])):QcH P Rd w0 base N L U F (o::os) (s::ss) C :=
  t_op (.is v) hu hs hg hd (fun W hR=>by
    rw [h]
    exact ⟨zbr _,(hc W hR).mono fun _ _ h=>h.const⟩) hk
theorem QmV (cs : Array Value) (T:TypeId) (hu:U.contains C.length=false) (hs:seen C o s=true) (hb:base≤w0.heap.size) (hg:gOk s.guard (get (envS N L (C.map Kn.val) s.reads))=true) (hd:o.dst.isNone=false)
    (h:∀ W,(execOp (Rely.look (get (envS N L (C.map Kn.val) s.reads))) o).run P W=.ok (.value (.pointer (some ⟨W.heap.size,0,none⟩))) (W.alloc (.cells cs T)))
    (hk:QcH P Rd w0 base N L U F os ss (C++[.new cs T])):QcH P Rd w0 base N L U F (o::os) (s::ss) C :=
  t_op (.new cs T) hu hs hg hd (fun W hR=>by
    rw [h]
    refine ⟨QaK _ _,_,rfl,?_,heap_alloc_new _ _⟩
    have:=hR.size
    omega) hk
end
end Auto
end
section
namespace Cha
open Go Go.RowKit
open Rely Auto Own Sha
open Sha
def qrt (x : List Wd) (i j k l:Nat):List Wd:=(((x.set i (qA2 (wget x i) (wget x j) (wget x k) (wget x l))).set j (qB2 (wget x i) (wget x j) (wget x k) (wget x l))).set k (qC2 (wget x i) (wget x j) (wget x k) (wget x l))).set l (qD2 (wget x i) (wget x j) (wget x k) (wget x l))
theorem QlC (x : List Wd) (i j k l:Nat):(qrt x i j k l).length=x.length:=by unfold qrt; simp only [zbh]
def dbl (x : List Wd):List Wd:=qrt (qrt (qrt (qrt (qrt (qrt (qrt (qrt (x) 0 4 8 12) 1 5 9 13) 2 6 10 14) 3 7 11 15) 0 5 10 15) 1 6 11 12) 2 7 8 13) 3 4 9 14
def qrow (j : Nat):List Int:=(qQ:List Int).drop (4*j) |>.take 4
def qn (j k:Nat):Nat:=(nth (qrow j) k).toNat
theorem QcW {j : Nat} (h:j<8):(qrow j).length=4:=(by decide:∀ j:Fin 8,(qrow j.val).length=4) ⟨j,h⟩
theorem Qnf {j : Nat} (h:j<8) (k:Nat) (hk:k<4):qn j k<16:=(by decide:∀ (j:Fin 8) (k:Fin 4),qn j.val k.val<16) ⟨j,h⟩ ⟨k,hk⟩
theorem QfE {j : Nat} (h:j<8) (k:Nat) (hk:k<4):nth (qrow j) k=((qn j k:Nat):Int):=(by decide:∀ (j:Fin 8) (k:Fin 4),nth (qrow j.val) k.val=((qn j.val k.val:Nat):Int)) ⟨j,h⟩ ⟨k,hk⟩
def qsN (x : List Wd):Nat→List Wd
  | 0=>x
  | j+1=>qrt (qsN x j) (qn j 0) (qn j 1) (qn j 2) (qn j 3)
theorem QdI (x : List Wd):∀ j,(qsN x j).length=x.length
  | 0=>rfl
  | j+1=>(QlC ..).trans (QdI x j)
theorem Qp4 (x : List Wd):(dbl x).length=x.length:=by unfold dbl; simp only [QlC]
def rounds (s : List Wd):Nat→List Wd
  | 0=>s
  | n+1=>dbl (rounds s n)
theorem Qfv (s : List Wd):∀ n,(rounds s n).length=s.length
  | 0=>rfl
  | n+1=>(Qp4 _).trans (Qfv s n)
theorem Qdc {x : List Wd} {n:Nat} (h:x.length=n):(x.map wv).length=n:=by rw [zad,h]
def Qcm (xs : List Int) (n i:Nat):List Int:=xs.take i++zae (n-i) 0
theorem Qd4 (xs : List Int) (n i:Nat) (h:xs.length=n) (hi:i≤n):(Qcm xs n i).length=n:=by unfold Qcm; rw [zas,zat,qZ]; omega
theorem QcS (xs : List Int) (n:Nat):zae n 0=Qcm xs n 0:=by unfold Qcm; rw [zag,Nat.sub_zero]; rfl
theorem QcE (xs : List Int) (n:Nat) (h:xs.length=n):Qcm xs n n=xs:=by unfold Qcm; rw [zaA,zbc,zaS,zax (by omega)]
theorem QcT (xs : List Int) (n i:Nat) (h:xs.length=n) (hi:i<n):(Qcm xs n i).set i (nth xs i)=Qcm xs n (i+1):=by
  have hl:(xs.take i).length=i:=by rw [zat]; omega
  unfold Qcm
  rw [zaH _ _ (by omega),hl,zaA,show n-i=(n-(i+1))+1 by omega,zaF,zaG]
  have e:xs.take (i+1)=xs.take i++[nth xs i]:=by
    rw [zaL,zaM (by omega)]
    simp [nth,show i<xs.length by omega]
  rw [e,za2]
  rfl
def QcM (x s:List Wd):List Int:=(zaY 64).map fun n=>wv ((wget x (n/4)+wget s (n/4))>>>(8*(n%4)))%256
theorem QgL (x s:List Wd):(QcM x s).length=64:=by unfold QcM; rw [zad,zaZ]
theorem Qrv (x s:List Wd) (i j:Nat) (hi:i<16) (hj:j<4):zaE.wrap (wv ((wget x i+wget s i)>>>(8*j)))=nth (QcM x s) (4*i+j):=by
  have h1:(4*i+j)/4=i:=by omega
  have h2:(4*i+j)%4=j:=by omega
  have h3:∀ z:Int,zaE.wrap z=z%2^8:=fun _=>rfl
  unfold nth QcM
  rw [h3,zaR,zbi,zbj (by omega),zbk,Option.getD_some,h1,h2]
  rfl
def Qb9 (ws : List Wd) (number:Int):List Int:=QcM (rounds (ws.set 12 (zbe 32 number)) 10) (ws.set 12 (zbe 32 number))
set_option maxRecDepth 100000 in
theorem Qoo (ws : List Wd) (number:Int) (tq:TypeId) (w:World) (hq:w.heap[3]? = some (.cells (ints .i64 qQ) tq)) (hw:ws.length=16):Calls Tryz.prog 132 #[.agg (ints .u32 (ws.map wv)),.int .i64 number] w (Ret w (.agg (ints .u8 (Qb9 ws number)))):=by
 refine enter 84 [(0,.agg (ints .u32 (ws.map wv))),(1,.int .i64 number)] Tryz.func132 rfl rfl kj rfl <| sgC fun K2 hK2=>Qak (ints .u32 (ws.map wv)) 193 2 rfl kj kj fun g3 W1 l3 e1 r3_1=>?_
 have x1:=zbv (zbr w) e1
 refine Qak (ints .u8 (zae 64 0)) 112 4 rfl kj kj fun g4 W2 l4 e2 r4_2=>sgN hK2 <| sgC fun K5 hK5=>sg 1 kj <| Qac (.int .u32 (wv (zbe 32 number))) 13 rfl kj (Qam (u:=.int .u32 (zaa.wrap (number))) kj (congrArg (zam .u32) (by rw [Sha.wrap32,QfR]))) <| sg 1 kj ?_
 have r3_2:=(Qaa r3_1 e2)
 refine Qai g3 _ (ints .u32 ((ws.map wv).set 12 (wv (zbe 32 number)))) 193 r3_2 rfl kj (Qa1 110 _ _ g3 12 193 _ _ r3_2 rfl kj kj kj (zan (show 12<16 by decide) (Qdc hw).symm)) fun W3 p3 r3_3=>?_
 have x3:=zbu p3 (zbv x1 e2) (qT (zbr w).size l3)
 obtain ⟨s,es⟩:∃ z:List Wd,z=ws.set 12 (zbe 32 number):=⟨_,rfl⟩
 have hs:s.length=16:=by rw [es,zbh,hw]
 have r3_3_6:W3.heap[g3]? = some (.cells (ints .u32 (s.map wv)) 193):=QaG r3_3 (by rw [es,List.map_set])
 refine sgN hK5 <| sgC fun K7 hK7=>Qac (.agg (ints .u32 (s.map wv))) 15 rfl kj (Qae 193 _ g3 193 _ _ r3_3_6 rfl kj kj (isz (n:=16) kj (izT (Qdc hs)))) <| Qak (ints .u32 ([0,0,0,0,0,0,0,0,0,0,0,0,0,0,0,0])) 193 5 rfl kj kj fun g8 W4 l8 e4 r8_4=>?_
 have b8:=qT x3.size l8
 refine Qai g8 _ (ints .u32 (s.map wv)) 193 r8_4 rfl kj (Qag 193 _ _ g8 193 _ _ r8_4 rfl kj kj (isz (n:=16) kj (izT (Qdc hs))) (eqsz (n:=16) kj (izT (Qdc hs))) (ints_one _ _)) fun W5 p5 r8_5=>sgN hK7 <| wp_seq_k fun K9 hK9=>sgB kj <| wp_block <| QaT (fun (s1:Nat)=>[(2,.pointer (some ⟨g3,0,none⟩)),(4,.pointer (some ⟨g4,0,none⟩)),(5,.pointer (some ⟨g8,0,none⟩)),(16,.int .i64 ((s1:Nat):Int))]) (fun (s1:Nat) W=>(s1≤10)∧(W.heap[g8]? = some (.cells (ints .u32 ((rounds s s1).map wv)) 193))∧(Qa0 [g8] W5 W)∧(Ext w W)) (fun (s1:Nat)=>10-s1) 0 ⟨kj,kj,kj,kj,trivial⟩ ⟨(zal _),(QaG r8_5 rfl),(zbz [g8] W5),(zbu p5 (zbv x3 e4) b8)⟩ fun s1 X1 V1 hI1=>?_
 obtain ⟨i,hs1⟩:∃ z,z=s1:=⟨_,rfl⟩
 subst hs1
 obtain ⟨hi,q8_1,kk1,xx1⟩:=hI1
 replace hi:i≤10:=hi
 replace q8_1:V1.heap[g8]? = some (.cells (ints .u32 ((rounds s i).map wv)) 193):=q8_1
 replace kk1:Qa0 [g8] W5 V1:=kk1
 replace xx1:Ext w V1:=xx1
 have q6:=kk1
 refine sgB kj <| wp_seq_k fun K12 hK12=>QaC (t:=decide (((i:Nat):Int)<10)) kj (fun c13=>?_) (fun c13=>?_)
 ·skip
  have hlt17:i<10:=by have:=of_decide_eq_true c13; omega
  refine wp_skip <| hK12 _ _ <| wp_seq_k fun K14 hK14=>wp_block <| sgC fun K15 hK15=>?_
  have r1_3:=(zbt p3 (Qaa (Qaa hq e1) e2) (Qad hq l3))
  refine Qac (.agg (ints .i64 (qQ))) 18 rfl kj (Qae 208 _ 3 tq _ _ (zb0 q6 (rpn p5 r1_3 e4 l8) (Qbd (Qad r1_3 l8) Qbr)) rfl kj kj (isz (n:=32) kj kj)) <| sg 1 kj <| sgN hK15 <| wp_block ?_
  obtain ⟨x0,ex0⟩:∃ z:List Wd,z=rounds s i:=⟨_,rfl⟩
  have h0:x0.length=16:=by rw [ex0,Qfv,hs]
  have r8_6_16:V1.heap[g8]? = some (.cells (ints .u32 (x0.map wv)) 193):=QaG q8_1 (by rw [ex0])
  refine QaT (fun (s2:Nat)=>[(2,.pointer (some ⟨g3,0,none⟩)),(4,.pointer (some ⟨g4,0,none⟩)),(5,.pointer (some ⟨g8,0,none⟩)),(16,.int .i64 ((i:Nat):Int)),(18,.agg (ints .i64 (qQ))),(19,.int .i64 ((s2:Nat):Int))]) (fun (s2:Nat) W=>(s2≤8)∧(W.heap[g8]? = some (.cells (ints .u32 ((qsN x0 s2).map wv)) 193))∧(Qa0 [g8] V1 W)∧(Ext w W)) (fun (s2:Nat)=>8-s2) 0 ⟨kj,kj,kj,kj,kj,kj,trivial⟩ ⟨(zal _),(QaG r8_6_16 (show x0.map wv=(qsN x0 0).map wv from rfl)),(zbz [g8] V1),xx1⟩ fun s2 X2 V2 hI2=>?_
  obtain ⟨j,hs2⟩:∃ z,z=s2:=⟨_,rfl⟩
  subst hs2
  obtain ⟨hj,q8_2,kk2,xx2⟩:=hI2
  replace hj:j≤8:=hj
  replace q8_2:V2.heap[g8]? = some (.cells (ints .u32 ((qsN x0 j).map wv)) 193):=q8_2
  replace kk2:Qa0 [g8] V1 V2:=kk2
  replace xx2:Ext w V2:=xx2
  have q7:=kk2
  refine sgB kj <| wp_seq_k fun K18 hK18=>QaC (t:=decide (((j:Nat):Int)<8)) kj (fun c19=>?_) (fun c19=>?_)
  ·skip
   have hlt20:j<8:=by have:=of_decide_eq_true c19; omega
   have hq0:qn j 0<16:=Qnf hlt20 0 (by decide)
   have hq1:qn j 1<16:=Qnf hlt20 1 (by decide)
   have hq2:qn j 2<16:=Qnf hlt20 2 (by decide)
   have hq3:qn j 3<16:=Qnf hlt20 3 (by decide)
   have hxj:(qsN x0 j).length=16:=(QdI x0 j).trans h0
   refine wp_skip <| hK18 _ _ <| wp_seq_k fun K20 hK20=>wp_block <| sgC fun K21 hK21=>Qac (.agg (ints .i64 (qrow j))) 21 rfl kj (by rcases (show j=0∨j=1∨j=2∨j=3∨j=4∨j=5∨j=6∨j=7 by omega) with rfl | rfl | rfl | rfl | rfl | rfl | rfl | rfl <;> kernel_rfl) ?_
   refine Qak ((Array.replicate 4 (.int .i64 0))) 207 7 rfl kj kj fun g22 W8 l22 e8 r22_8=>Qai g22 _ (ints .i64 (qrow j)) 207 r22_8 rfl kj (Qag 207 _ _ g22 207 _ _ r22_8 rfl kj kj (isz (n:=4) kj (izT (QcW hlt20))) (eqsz (n:=4) kj (izT (QcW hlt20))) (ints_one _ _)) fun W9 p9 r22_9=>?_
   have x9:=zbu p9 (zbv xx2 e8) (qT xx2.size l22)
   refine sgN hK21 <| QbB (fun W=>W.heap[g22]? = some (.cells (ints .i64 (qrow j)) 207)) [⟨none,[(7,none)]⟩,⟨none,[(23,some 0)]⟩,⟨none,[(7,none)]⟩,⟨none,[(25,some 2)]⟩,⟨none,[(7,none)]⟩,⟨none,[(27,some 4)]⟩,⟨none,[(7,none)]⟩,⟨none,[(29,some 6)]⟩,⟨none,[(7,none)]⟩,⟨none,[(31,some 8)]⟩,⟨none,[(5,none),(32,some 9)]⟩,⟨none,[(33,some 10)]⟩,⟨none,[(7,none)]⟩,⟨none,[(35,some 12)]⟩,⟨none,[(5,none),(36,some 13)]⟩,⟨none,[(37,some 14)]⟩,⟨none,[(7,none)]⟩,⟨none,[(39,some 16)]⟩,⟨none,[(5,none),(40,some 17)]⟩,⟨none,[(41,some 18)]⟩,⟨none,[(7,none)]⟩,⟨none,[(43,some 20)]⟩,⟨none,[(5,none),(44,some 21)]⟩,⟨none,[(45,some 22)]⟩,⟨none,[(34,some 11),(38,some 15),(42,some 19),(46,some 23)]⟩,⟨none,[(47,some 24)]⟩,⟨none,[(22,some 25)]⟩,⟨none,[(22,some 25)]⟩,⟨none,[(22,some 25)]⟩,⟨none,[(22,some 25)]⟩,⟨none,[(5,none),(24,some 1)]⟩,⟨none,[(52,some 30),(48,some 26)]⟩,⟨none,[(5,none),(26,some 3)]⟩,⟨none,[(53,some 32),(49,some 27)]⟩,⟨none,[(5,none),(28,some 5)]⟩,⟨none,[(54,some 34),(50,some 28)]⟩,⟨none,[(5,none),(30,some 7)]⟩,⟨none,[(55,some 36),(51,some 29)]⟩] [] [2,3,4,5,6,7,27,28,29,32,34,36] kj kj kj (fun W hR=>Qaa r22_9 hR) fun F hF=>QaY (.pointer (some ⟨g22,0,none⟩)) kj kj rfl (fun _=>kj) <| Qbz (.int .i64 (((qn j 0:Nat):Int))) kj kj kj rfl (fun W hR=>(Qaj 3 _ g22 0 207 _ (.int .i64 (((qn j 0:Nat):Int))) _ (Qaa (Qaa r22_9 (Qah _)) hR) rfl kj ((Qay _ _ _ (zan (by decide) (QcW hlt20).symm)).trans (congrArg (fun z=>some (zam .i64 z)) (QfE hlt20 0 (by decide)))) kj)) <| QaY (.pointer (some ⟨g22,1,none⟩)) kj kj rfl (fun _=>kj) <| QdH (.int .i64 (((qn j 1:Nat):Int))) kj kj kj rfl (fun W hW=>(Qaj 3 _ g22 1 207 _ (.int .i64 (((qn j 1:Nat):Int))) _ hW rfl kj ((Qay _ _ _ (zan (by decide) (QcW hlt20).symm)).trans (congrArg (fun z=>some (zam .i64 z)) (QfE hlt20 1 (by decide)))) kj)) <| QaY (.pointer (some ⟨g22,2,none⟩)) kj kj rfl (fun _=>kj) <| QdH (.int .i64 (((qn j 2:Nat):Int))) kj kj kj rfl (fun W hW=>(Qaj 3 _ g22 2 207 _ (.int .i64 (((qn j 2:Nat):Int))) _ hW rfl kj ((Qay _ _ _ (zan (by decide) (QcW hlt20).symm)).trans (congrArg (fun z=>some (zam .i64 z)) (QfE hlt20 2 (by decide)))) kj)) <| QaY (.pointer (some ⟨g22,3,none⟩)) kj kj rfl (fun _=>kj) <| QdH (.int .i64 (((qn j 3:Nat):Int))) kj kj kj rfl (fun W hW=>(Qaj 3 _ g22 3 207 _ (.int .i64 (((qn j 3:Nat):Int))) _ hW rfl kj ((Qay _ _ _ (zan (by decide) (QcW hlt20).symm)).trans (congrArg (fun z=>some (zam .i64 z)) (QfE hlt20 3 (by decide)))) kj)) ?_
   refine QaY (.pointer (some ⟨g22,0,none⟩)) kj kj rfl (fun _=>kj) <| Qbz (.int .i64 (((qn j 0:Nat):Int))) kj kj kj rfl (fun W hR=>(Qaj 3 _ g22 0 207 _ (.int .i64 (((qn j 0:Nat):Int))) _ (Qaa (Qaa r22_9 (Qah _)) hR) rfl kj ((Qay _ _ _ (zan (by decide) (QcW hlt20).symm)).trans (congrArg (fun z=>some (zam .i64 z)) (QfE hlt20 0 (by decide)))) kj)) <| QaY (.pointer (some ⟨g8,qn j 0,none⟩)) kj kj rfl (fun W=>(Qa8 _ _ _ .i64 (qn j 0) _ 16 110 rfl kj kj kj kj (by omega))) ?_
   have r8_8:=(Qaa q8_2 e8)
   have r8_9:=(zbt p9 r8_8 (Qad q8_2 l22))
   refine Qbz (.int .u32 (wv (wget (qsN x0 j) (qn j 0)))) kj kj kj rfl (fun W hR=>(Qaj 110 _ g8 (qn j 0) 193 _ (.int .u32 (wv (wget (qsN x0 j) (qn j 0)))) _ (Qaa (Qaa r8_9 (Qah _)) hR) rfl kj ((Qay _ _ _ (zan (by omega) (Qdc ((QdI x0 j).trans h0)).symm)).trans (congrArg (fun z=>some (zam .u32 z)) (Qc6 (qsN x0 j) (qn j 0)))) kj)) <| QaY (.pointer (some ⟨g22,1,none⟩)) kj kj rfl (fun _=>kj) <| Qbz (.int .i64 (((qn j 1:Nat):Int))) kj kj kj rfl (fun W hR=>(Qaj 3 _ g22 1 207 _ (.int .i64 (((qn j 1:Nat):Int))) _ (Qaa (Qaa r22_9 (Qah _)) hR) rfl kj ((Qay _ _ _ (zan (by decide) (QcW hlt20).symm)).trans (congrArg (fun z=>some (zam .i64 z)) (QfE hlt20 1 (by decide)))) kj)) <| QaY (.pointer (some ⟨g8,qn j 1,none⟩)) kj kj rfl (fun W=>(Qa8 _ _ _ .i64 (qn j 1) _ 16 110 rfl kj kj kj kj (by omega))) <| Qbz (.int .u32 (wv (wget (qsN x0 j) (qn j 1)))) kj kj kj rfl (fun W hR=>(Qaj 110 _ g8 (qn j 1) 193 _ (.int .u32 (wv (wget (qsN x0 j) (qn j 1)))) _ (Qaa (Qaa r8_9 (Qah _)) hR) rfl kj ((Qay _ _ _ (zan (by omega) (Qdc ((QdI x0 j).trans h0)).symm)).trans (congrArg (fun z=>some (zam .u32 z)) (Qc6 (qsN x0 j) (qn j 1)))) kj)) <| QaY (.pointer (some ⟨g22,2,none⟩)) kj kj rfl (fun _=>kj) <| Qbz (.int .i64 (((qn j 2:Nat):Int))) kj kj kj rfl (fun W hR=>(Qaj 3 _ g22 2 207 _ (.int .i64 (((qn j 2:Nat):Int))) _ (Qaa (Qaa r22_9 (Qah _)) hR) rfl kj ((Qay _ _ _ (zan (by decide) (QcW hlt20).symm)).trans (congrArg (fun z=>some (zam .i64 z)) (QfE hlt20 2 (by decide)))) kj)) <| QaY (.pointer (some ⟨g8,qn j 2,none⟩)) kj kj rfl (fun W=>(Qa8 _ _ _ .i64 (qn j 2) _ 16 110 rfl kj kj kj kj (by omega))) <| Qbz (.int .u32 (wv (wget (qsN x0 j) (qn j 2)))) kj kj kj rfl (fun W hR=>(Qaj 110 _ g8 (qn j 2) 193 _ (.int .u32 (wv (wget (qsN x0 j) (qn j 2)))) _ (Qaa (Qaa r8_9 (Qah _)) hR) rfl kj ((Qay _ _ _ (zan (by omega) (Qdc ((QdI x0 j).trans h0)).symm)).trans (congrArg (fun z=>some (zam .u32 z)) (Qc6 (qsN x0 j) (qn j 2)))) kj)) <| QaY (.pointer (some ⟨g22,3,none⟩)) kj kj rfl (fun _=>kj) ?_
   refine Qbz (.int .i64 (((qn j 3:Nat):Int))) kj kj kj rfl (fun W hR=>(Qaj 3 _ g22 3 207 _ (.int .i64 (((qn j 3:Nat):Int))) _ (Qaa (Qaa r22_9 (Qah _)) hR) rfl kj ((Qay _ _ _ (zan (by decide) (QcW hlt20).symm)).trans (congrArg (fun z=>some (zam .i64 z)) (QfE hlt20 3 (by decide)))) kj)) <| QaY (.pointer (some ⟨g8,qn j 3,none⟩)) kj kj rfl (fun W=>(Qa8 _ _ _ .i64 (qn j 3) _ 16 110 rfl kj kj kj kj (by omega))) <| Qbz (.int .u32 (wv (wget (qsN x0 j) (qn j 3)))) kj kj kj rfl (fun W hR=>(Qaj 110 _ g8 (qn j 3) 193 _ (.int .u32 (wv (wget (qsN x0 j) (qn j 3)))) _ (Qaa (Qaa r8_9 (Qah _)) hR) rfl kj ((Qay _ _ _ (zan (by omega) (Qdc ((QdI x0 j).trans h0)).symm)).trans (congrArg (fun z=>some (zam .u32 z)) (Qc6 (qsN x0 j) (qn j 3)))) kj)) <| Qem (.tuple #[.int .u32 (wv (qA2 (wget (qsN x0 j) (qn j 0)) (wget (qsN x0 j) (qn j 1)) (wget (qsN x0 j) (qn j 2)) (wget (qsN x0 j) (qn j 3)))),.int .u32 (wv (qB2 (wget (qsN x0 j) (qn j 0)) (wget (qsN x0 j) (qn j 1)) (wget (qsN x0 j) (qn j 2)) (wget (qsN x0 j) (qn j 3)))),.int .u32 (wv (qC2 (wget (qsN x0 j) (qn j 0)) (wget (qsN x0 j) (qn j 1)) (wget (qsN x0 j) (qn j 2)) (wget (qsN x0 j) (qn j 3)))),.int .u32 (wv (qD2 (wget (qsN x0 j) (qn j 0)) (wget (qsN x0 j) (qn j 1)) (wget (qsN x0 j) (qn j 2)) (wget (qsN x0 j) (qn j 3))))]) 144 #[.int .u32 (wv (wget (qsN x0 j) (qn j 0))),.int .u32 (wv (wget (qsN x0 j) (qn j 1))),.int .u32 (wv (wget (qsN x0 j) (qn j 2))),.int .u32 (wv (wget (qsN x0 j) (qn j 3)))] kj kj kj rfl (fun _=>kj) (fun W hR=>(Qne (wget (qsN x0 j) (qn j 0)) (wget (qsN x0 j) (qn j 1)) (wget (qsN x0 j) (qn j 2)) (wget (qsN x0 j) (qn j 3))) W) <| QaY (.tuple #[.int .u32 (wv (qA2 (wget (qsN x0 j) (qn j 0)) (wget (qsN x0 j) (qn j 1)) (wget (qsN x0 j) (qn j 2)) (wget (qsN x0 j) (qn j 3)))),.int .u32 (wv (qB2 (wget (qsN x0 j) (qn j 0)) (wget (qsN x0 j) (qn j 1)) (wget (qsN x0 j) (qn j 2)) (wget (qsN x0 j) (qn j 3)))),.int .u32 (wv (qC2 (wget (qsN x0 j) (qn j 0)) (wget (qsN x0 j) (qn j 1)) (wget (qsN x0 j) (qn j 2)) (wget (qsN x0 j) (qn j 3)))),.int .u32 (wv (qD2 (wget (qsN x0 j) (qn j 0)) (wget (qsN x0 j) (qn j 1)) (wget (qsN x0 j) (qn j 2)) (wget (qsN x0 j) (qn j 3))))]) kj kj rfl (fun _=>kj) <| QaY (.int .u32 (wv (qA2 (wget (qsN x0 j) (qn j 0)) (wget (qsN x0 j) (qn j 1)) (wget (qsN x0 j) (qn j 2)) (wget (qsN x0 j) (qn j 3))))) kj kj rfl (fun _=>kj) <| QaY (.int .u32 (wv (qB2 (wget (qsN x0 j) (qn j 0)) (wget (qsN x0 j) (qn j 1)) (wget (qsN x0 j) (qn j 2)) (wget (qsN x0 j) (qn j 3))))) kj kj rfl (fun _=>kj) <| QaY (.int .u32 (wv (qC2 (wget (qsN x0 j) (qn j 0)) (wget (qsN x0 j) (qn j 1)) (wget (qsN x0 j) (qn j 2)) (wget (qsN x0 j) (qn j 3))))) kj kj rfl (fun _=>kj) <| QaY (.int .u32 (wv (qD2 (wget (qsN x0 j) (qn j 0)) (wget (qsN x0 j) (qn j 1)) (wget (qsN x0 j) (qn j 2)) (wget (qsN x0 j) (qn j 3))))) kj kj rfl (fun _=>kj) <| QaY (.pointer (some ⟨g8,qn j 0,none⟩)) kj kj rfl (fun W=>(Qa8 _ _ _ .i64 (qn j 0) _ 16 110 rfl kj kj kj kj (by omega))) ?_
   refine Qb0 rfl <| QaY (.pointer (some ⟨g8,qn j 1,none⟩)) kj kj rfl (fun W=>(Qa8 _ _ _ .i64 (qn j 1) _ 16 110 rfl kj kj kj kj (by omega))) <| Qb0 rfl <| QaY (.pointer (some ⟨g8,qn j 2,none⟩)) kj kj rfl (fun W=>(Qa8 _ _ _ .i64 (qn j 2) _ 16 110 rfl kj kj kj kj (by omega))) <| Qb0 rfl <| QaY (.pointer (some ⟨g8,qn j 3,none⟩)) kj kj rfl (fun W=>(Qa8 _ _ _ .i64 (qn j 3) _ 16 110 rfl kj kj kj kj (by omega))) <| Qb0 rfl <| QeY (hF _ kj fun W10 e10=>?_)
   simp only [zaj,zak,fins,up]
   clear hF
   have r8_10:=(Qaa r8_9 e10)
   have r22_10:=(Qaa r22_9 e10)
   refine Qbv _ g8 _ (ints .u32 (((qsN x0 j).map wv).set (qn j 0) (wv (qA2 (wget (qsN x0 j) (qn j 0)) (wget (qsN x0 j) (qn j 1)) (wget (qsN x0 j) (qn j 2)) (wget (qsN x0 j) (qn j 3)))))) 193 r8_10 rfl (Qa1 110 _ _ g8 (qn j 0) 193 _ _ r8_10 rfl kj kj kj (zan (by omega) (Qdc ((QdI x0 j).trans h0)).symm)) (fun W hp=>zbt hp r22_10 (Qap q8_2 l22)) fun W11 p11 r8_11=>?_
   have x11:=zbu p11 (zbv x9 e10) b8
   have r22_11:=(zbt p11 r22_10 (Qap q8_2 l22))
   refine Qbv _ g8 _ (ints .u32 ((((qsN x0 j).map wv).set (qn j 0) (wv (qA2 (wget (qsN x0 j) (qn j 0)) (wget (qsN x0 j) (qn j 1)) (wget (qsN x0 j) (qn j 2)) (wget (qsN x0 j) (qn j 3))))).set (qn j 1) (wv (qB2 (wget (qsN x0 j) (qn j 0)) (wget (qsN x0 j) (qn j 1)) (wget (qsN x0 j) (qn j 2)) (wget (qsN x0 j) (qn j 3)))))) 193 r8_11 rfl (Qa1 110 _ _ g8 (qn j 1) 193 _ _ r8_11 rfl kj kj kj (zan (by omega) ((zbh ..).trans (Qdc ((QdI x0 j).trans h0))).symm)) (fun W hp=>zbt hp r22_11 (Qap q8_2 l22)) fun W12 p12 r8_12=>?_
   have r22_12:=(zbt p12 r22_11 (Qap q8_2 l22))
   refine Qbv _ g8 _ (ints .u32 (((((qsN x0 j).map wv).set (qn j 0) (wv (qA2 (wget (qsN x0 j) (qn j 0)) (wget (qsN x0 j) (qn j 1)) (wget (qsN x0 j) (qn j 2)) (wget (qsN x0 j) (qn j 3))))).set (qn j 1) (wv (qB2 (wget (qsN x0 j) (qn j 0)) (wget (qsN x0 j) (qn j 1)) (wget (qsN x0 j) (qn j 2)) (wget (qsN x0 j) (qn j 3))))).set (qn j 2) (wv (qC2 (wget (qsN x0 j) (qn j 0)) (wget (qsN x0 j) (qn j 1)) (wget (qsN x0 j) (qn j 2)) (wget (qsN x0 j) (qn j 3)))))) 193 r8_12 rfl (Qa1 110 _ _ g8 (qn j 2) 193 _ _ r8_12 rfl kj kj kj (zan (by omega) ((zbh ..).trans ((zbh ..).trans (Qdc ((QdI x0 j).trans h0)))).symm)) (fun W hp=>zbt hp r22_12 (Qap q8_2 l22)) fun W13 p13 r8_13=>Qbv _ g8 _ (ints .u32 ((((((qsN x0 j).map wv).set (qn j 0) (wv (qA2 (wget (qsN x0 j) (qn j 0)) (wget (qsN x0 j) (qn j 1)) (wget (qsN x0 j) (qn j 2)) (wget (qsN x0 j) (qn j 3))))).set (qn j 1) (wv (qB2 (wget (qsN x0 j) (qn j 0)) (wget (qsN x0 j) (qn j 1)) (wget (qsN x0 j) (qn j 2)) (wget (qsN x0 j) (qn j 3))))).set (qn j 2) (wv (qC2 (wget (qsN x0 j) (qn j 0)) (wget (qsN x0 j) (qn j 1)) (wget (qsN x0 j) (qn j 2)) (wget (qsN x0 j) (qn j 3))))).set (qn j 3) (wv (qD2 (wget (qsN x0 j) (qn j 0)) (wget (qsN x0 j) (qn j 1)) (wget (qsN x0 j) (qn j 2)) (wget (qsN x0 j) (qn j 3)))))) 193 r8_13 rfl (Qa1 110 _ _ g8 (qn j 3) 193 _ _ r8_13 rfl kj kj kj (zan (by omega) ((zbh ..).trans ((zbh ..).trans ((zbh ..).trans (Qdc ((QdI x0 j).trans h0))))).symm)) (fun W hp=>zbt hp (zbt p13 r22_12 (Qap q8_2 l22)) (Qap q8_2 l22)) fun W14 p14 r8_14=>Qd8 <| hK20 _ _ <| Qao <| Qac (.int .i64 ((j+1:Nat):Int)) 56 rfl kj (Qam (u:=.int .i64 (zao.wrap (((j:Nat):Int)+1))) kj (congrArg (zam .i64) (i64n _ _ (by omega) (by omega)))) <| sg 1 kj <| Qaz ?_
   repeat (first | with_reducible refine goX1 ?_ | with_reducible refine goX2 ?_ | with_reducible refine goX3 ?_)
   exact QaL (j+1) ⟨kj,kj,kj,kj,kj,kj,trivial⟩ ⟨(by omega),(QaG r8_14 (by rw [show qsN x0 (j+1)=qrt (qsN x0 j) (qn j 0) (qn j 1) (qn j 2) (qn j 3) from rfl]; unfold qrt; simp only [List.map_set])),(zb2 (zb2 (zb2 (zb2 (zb1 (zb2 (zb1 q7 e8) p9 (.inr (qT (Qa0.size q7) (qT (qR _) l22)))) e10) p11 (.inl (by simp))) p12 (.inl (by simp))) p13 (.inl (by simp))) p14 (.inl (by simp))),(zbu p14 (zbu p13 (zbu p12 x11 b8) b8) b8)⟩ (by show 8-(j+1)<8-j; omega)
  ·skip
   have heq20:j=8:=by have:=of_decide_eq_false c19; omega
   refine wp_exit <| hK14 _ _ <| Qao <| Qac (.int .i64 ((i+1:Nat):Int)) 57 rfl kj (Qam (u:=.int .i64 (zao.wrap (((i:Nat):Int)+1))) kj (congrArg (zam .i64) (i64n _ _ (by omega) (by omega)))) <| sg 1 kj <| Qaz ?_
   repeat (first | with_reducible refine goX1 ?_ | with_reducible refine goX2 ?_ | with_reducible refine goX3 ?_)
   exact QaL (i+1) ⟨kj,kj,kj,kj,trivial⟩ ⟨(by omega),(QaG q8_2 (by rw [heq20,ex0]; rfl)),(Qa0.keeps q6 q7 (Qh0 (.inl (by simp)) QjR)),xx2⟩ (by omega)
 ·skip
  have heq17:i=10:=by have:=of_decide_eq_false c13; omega
  obtain ⟨xF,exF⟩:∃ z:List Wd,z=rounds s 10:=⟨_,rfl⟩
  have hxF:xF.length=16:=by rw [exF,Qfv,hs]
  subst heq17
  have r8_6_23:V1.heap[g8]? = some (.cells (ints .u32 (xF.map wv)) 193):=QaG q8_1 (by rw [exF])
  refine wp_exit <| hK9 _ _ <| sgC fun K24 hK24=>Qak (ints .u8 (zae 64 0)) 112 8 rfl kj kj fun g25 W7 l25 e7 r25_7=>sgN hK24 <| wp_seq_k fun K26 hK26=>sgB kj <| wp_block ?_
  have hP:(QcM xF s).length=64:=QgL _ _
  refine QaT (fun (s3:Nat)=>[(2,.pointer (some ⟨g3,0,none⟩)),(4,.pointer (some ⟨g4,0,none⟩)),(5,.pointer (some ⟨g8,0,none⟩)),(8,.pointer (some ⟨g25,0,none⟩)),(58,.int .i64 ((s3:Nat):Int))]) (fun (s3:Nat) W=>(s3≤16)∧(W.heap[g25]? = some (.cells (ints .u8 (Qcm (QcM xF s) 64 (4*s3))) 112))∧(Qa0 [g25] W7 W)∧(Ext w W)) (fun (s3:Nat)=>16-s3) 0 ⟨kj,kj,kj,kj,kj,trivial⟩ ⟨(zal _),(QaG r25_7 (QcS _ 64)),(zbz [g25] W7),(zbv xx1 e7)⟩ fun s3 X3 V3 hI3=>?_
  obtain ⟨i,hs3⟩:∃ z,z=s3:=⟨_,rfl⟩
  subst hs3
  obtain ⟨hi,q25_3,kk3,xx3⟩:=hI3
  replace hi:i≤16:=hi
  replace q25_3:V3.heap[g25]? = some (.cells (ints .u8 (Qcm (QcM xF s) 64 (4*i))) 112):=q25_3
  replace kk3:Qa0 [g25] W7 V3:=kk3
  replace xx3:Ext w V3:=xx3
  have q8:=kk3
  refine sgB kj <| wp_seq_k fun K29 hK29=>QaC (t:=decide (((i:Nat):Int)<16)) kj (fun c30=>?_) (fun c30=>?_)
  ·skip
   have hlt59:i<16:=by have:=of_decide_eq_true c30; omega
   refine wp_skip <| hK29 _ _ <| wp_seq_k fun K31 hK31=>wp_block <| sgB kj <| wp_seq_k fun K33 hK33=>QaQ 7 [⟨none,[(9,none)]⟩,⟨none,[(5,none),(61,some 0)]⟩,⟨none,[(62,some 1)]⟩,⟨none,[(9,none)]⟩,⟨none,[(2,none),(64,some 3)]⟩,⟨none,[(65,some 4)]⟩,⟨none,[(63,some 2),(66,some 5)]⟩] kj kj fun F hF=>Qal (.int .i64 ((i:Nat):Int)) kj kj (fun _=>kj) <| Qal (.pointer (some ⟨g8,i,none⟩)) kj kj (fun W=>(Qa8 _ _ _ .i64 (i) _ 16 110 rfl kj kj kj kj (by omega))) ?_
   have r8_8:=(zb0 q8 (Qaa r8_6_23 e7) (Qbd (Qad r8_6_23 l25) Qbr))
   refine Qax (.int .u32 (wv (wget xF i))) kj kj (fun W hR=>(Qaj 110 _ g8 i 193 _ (.int .u32 (wv (wget xF i))) _ (Qaa (Qaa r8_8 (Qah _)) hR) rfl kj ((Qay _ _ _ (zan (by omega) (Qdc hxF).symm)).trans (congrArg (fun z=>some (zam .u32 z)) (Qc6 xF i))) kj)) <| Qal (.int .i64 ((i:Nat):Int)) kj kj (fun _=>kj) <| Qal (.pointer (some ⟨g3,i,none⟩)) kj kj (fun W=>(Qa8 _ _ _ .i64 (i) _ 16 110 rfl kj kj kj kj (by omega))) ?_
   have r3_6:=(zb0 q6 (rpn p5 r3_3_6 e4 l8) (Qbd (Qad r3_3_6 l8) Qbr))
   refine Qax (.int .u32 (wv (wget s i))) kj kj (fun W hR=>(Qaj 110 _ g3 i 193 _ (.int .u32 (wv (wget s i))) _ (Qaa (Qaa (zb0 q8 (Qaa r3_6 e7) (Qbd (Qad r3_6 l25) Qbr)) (Qah _)) hR) rfl kj ((Qay _ _ _ (zan (by omega) (Qdc hs).symm)).trans (congrArg (fun z=>some (zam .u32 z)) (Qc6 s i))) kj)) <| Qal (.int .u32 (wv (((wget xF i))+((wget s i))))) kj kj (fun W=>(Qam kj (congrArg (zam .u32) (QeI _ _)))) <| QaH (hF _ kj fun W9 e9=>?_)
   simp only [ups,up,Kn.val,zaf,zag,zah,zai,zaj,zak]
   clear hF
   have x9:=zbv xx3 e9
   refine sg 1 kj <| sgN hK33 <| sgB kj <| wp_block <| QaT (fun (s4:Nat)=>[(2,.pointer (some ⟨g3,0,none⟩)),(4,.pointer (some ⟨g4,0,none⟩)),(5,.pointer (some ⟨g8,0,none⟩)),(8,.pointer (some ⟨g25,0,none⟩)),(58,.int .i64 ((i:Nat):Int)),(9,.int .i64 ((i:Nat):Int)),(10,.int .u32 (wv (wget xF i+wget s i))),(68,.int .i64 ((s4:Nat):Int))]) (fun (s4:Nat) W=>(s4≤4)∧(W.heap[g25]? = some (.cells (ints .u8 (Qcm (QcM xF s) 64 (4*i+s4))) 112))∧(Qa0 [g25] W9 W)∧(Ext w W)) (fun (s4:Nat)=>4-s4) 0 ⟨kj,kj,kj,kj,kj,kj,kj,kj,trivial⟩ ⟨(zal _),(QaG (Qaa q25_3 e9) rfl),(zbz [g25] W9),x9⟩ fun s4 X4 V4 hI4=>?_
   obtain ⟨j,hs4⟩:∃ z,z=s4:=⟨_,rfl⟩
   subst hs4
   obtain ⟨hj,q25_4,kk4,xx4⟩:=hI4
   replace hj:j≤4:=hj
   replace q25_4:V4.heap[g25]? = some (.cells (ints .u8 (Qcm (QcM xF s) 64 (4*i+j))) 112):=q25_4
   replace kk4:Qa0 [g25] W9 V4:=kk4
   replace xx4:Ext w V4:=xx4
   have q10:=kk4
   refine sgB kj <| wp_seq_k fun K36 hK36=>QaC (t:=decide (((j:Nat):Int)<4)) kj (fun c37=>?_) (fun c37=>?_)
   ·skip
    have hlt69:j<4:=by have:=of_decide_eq_true c37; omega
    refine wp_skip <| hK36 _ _ <| wp_seq_k fun K38 hK38=>wp_block <| sgB kj <| Qao <| sg 1 kj <| Qac (.int .i64 ((4*i:Nat):Int)) 72 rfl kj (Qam (u:=.int .i64 (zao.wrap (4*((i:Nat):Int)))) kj (congrArg (zam .i64) (i64n _ _ (by omega) (by omega)))) <| sg 1 kj <| Qac (.int .i64 (((4*i)+j:Nat):Int)) 74 rfl kj (Qam (u:=.int .i64 (zao.wrap (((4*i:Nat):Int)+((j:Nat):Int)))) kj (congrArg (zam .i64) (i64n _ _ (by omega) (by omega)))) ?_
    refine sg 2 kj <| Qac (.int .i64 ((8*j:Nat):Int)) 77 rfl kj (Qam (u:=.int .i64 (zao.wrap (8*((j:Nat):Int)))) kj (congrArg (zam .i64) (i64n _ _ (by omega) (by omega)))) <| Qac (.int .u32 (wv ((wget xF i+wget s i)>>>(8*j)))) 78 rfl kj (Qbu .shr _ _ _ _ .u32 .i64 _ _ _ rfl kj kj (QdS _ _ _ _ _ _ (by omega) (Qk0 _ _ (8*j) rfl (by omega)))) <| Qac (.int .u8 (nth (QcM xF s) (4*i+j))) 79 rfl kj (Qam (u:=.int .u8 (zaE.wrap (wv ((wget xF i+wget s i)>>>(8*j))))) kj (congrArg (zam .u8) (Qrv xF s i j hlt59 hlt69))) <| Qac (.pointer (some ⟨g25,(4*i)+j,none⟩)) 80 rfl kj (Qa8 _ _ _ .i64 ((4*i)+j) _ 64 5 rfl kj kj kj kj (by omega)) <| Qai g25 _ (ints .u8 ((Qcm (QcM xF s) 64 (4*i+j)).set ((4*i)+j) (nth (QcM xF s) (4*i+j)))) 112 q25_4 rfl kj (Qa1 5 _ _ g25 ((4*i)+j) 112 _ _ q25_4 rfl kj kj kj (zan (by omega) (Qd4 _ 64 _ hP (by omega)).symm)) fun W11 p11 r25_11=>?_
    have x11:=zbu p11 xx4 (qT xx1.size l25)
    refine Qaz <| hK38 _ _ <| Qao <| Qac (.int .i64 ((j+1:Nat):Int)) 81 rfl kj (Qam (u:=.int .i64 (zao.wrap (((j:Nat):Int)+1))) kj (congrArg (zam .i64) (i64n _ _ (by omega) (by omega)))) <| sg 1 kj <| Qaz ?_
    repeat (first | with_reducible refine goX1 ?_ | with_reducible refine goX2 ?_ | with_reducible refine goX3 ?_)
    exact QaL (j+1) ⟨kj,kj,kj,kj,kj,kj,kj,kj,trivial⟩ ⟨(by omega),(QaG r25_11 (QcT _ 64 (4*i+j) hP (by omega))),(zb2 q10 p11 (.inl (by simp))),x11⟩ (by omega)
   ·skip
    have heq69:j=4:=by have:=of_decide_eq_false c37; omega
    refine wp_exit <| hK31 _ _ <| Qao <| Qac (.int .i64 ((i+1:Nat):Int)) 82 rfl kj (Qam (u:=.int .i64 (zao.wrap (((i:Nat):Int)+1))) kj (congrArg (zam .i64) (i64n _ _ (by omega) (by omega)))) <| sg 1 kj <| Qaz ?_
    repeat (first | with_reducible refine goX1 ?_ | with_reducible refine goX2 ?_ | with_reducible refine goX3 ?_)
    exact QaL (i+1) ⟨kj,kj,kj,kj,kj,trivial⟩ ⟨(by omega),(QaG q25_4 (by rw [heq69]; rfl)),(Qa0.keeps (zb1 q8 e9) q10 (Qh0 (.inl (by simp)) QjR)),xx4⟩ (by omega)
  ·skip
   have heq59:i=16:=by have:=of_decide_eq_false c30; omega
   subst heq59
   have r25_8_40:V3.heap[g25]? = some (.cells (ints .u8 (QcM xF s)) 112):=QaG q25_3 (QcE _ 64 hP)
   refine wp_exit <| hK26 _ _ <| sgC fun K41 hK41=>Qac (.agg (ints .u8 (QcM xF s))) 83 rfl kj (Qae 112 _ g25 112 _ _ r25_8_40 rfl kj kj (isz (n:=64) kj (izT hP))) ?_
   have r4_3:=(zbt p3 r4_2 (Qap r3_1 l4))
   have r4_6:=(zb0 q6 (rpn p5 r4_3 e4 l8) (Qbd (Qad r4_3 l8) Qbr))
   have r4_8:=(zb0 q8 (Qaa r4_6 e7) (Qbd (Qad r4_6 l25) Qbr))
   refine Qai g4 _ (ints .u8 (QcM xF s)) 112 r4_8 rfl kj (Qag 112 _ _ g4 112 _ _ r4_8 rfl kj kj (isz (n:=64) kj (izT hP)) (eqsz (n:=64) (izT (qZ (n:=64))) (izT hP)) (ints_one _ _)) fun W9 p9 r4_9=>?_
   have x9:=zbu p9 xx3 (qT x1.size l4)
   refine sgN hK41 <| wp_ret ?_
   repeat (first | with_reducible refine goR1 ?_ | with_reducible refine goR2 ?_)
   exact (show bodyPost _ _ _ .ret _ _ from ret1 (.agg (ints .u8 (QcM xF s))) rfl (QaU g4 112 _ r4_9 kj kj (isz (n:=64) kj (izT hP))) ⟨by unfold Qb9; rw [exF,es],x9⟩)
end Cha
end
section
namespace Cha
open Go Go.RowKit
open Rely Auto Own Sha
open Sha
def Qbj (key nonce:List Int):List Wd:=[1634760805,857760878,2036477234,1797285236,le4 (sub4 key 0),le4 (sub4 key 1),le4 (sub4 key 2),le4 (sub4 key 3),le4 (sub4 key 4),le4 (sub4 key 5),le4 (sub4 key 6),le4 (sub4 key 7),0,le4 (sub4 nonce 0),le4 (sub4 nonce 1),le4 (sub4 nonce 2)]
theorem Qe4 (key nonce:List Int):(Qbj key nonce).length=16:=rfl
theorem Qoj (key nonce:List Int):([1634760805,857760878,2036477234,1797285236,wv (le4 (sub4 key 0)),wv (le4 (sub4 key 1)),wv (le4 (sub4 key 2)),wv (le4 (sub4 key 3)),wv (le4 (sub4 key 4)),wv (le4 (sub4 key 5)),wv (le4 (sub4 key 6)),wv (le4 (sub4 key 7)),0,wv (le4 (sub4 nonce 0)),wv (le4 (sub4 nonce 1)),wv (le4 (sub4 nonce 2))]:List Int)=(Qbj key nonce).map wv:=rfl
theorem Qcl (ws : List Wd) (n:Int):(Qb9 ws n).length=64:=QgL _ _
set_option maxRecDepth 100000 in
theorem QpD (key nonce:List Int) (v:Value) (B:Nat) (number:Int) (th tq:TypeId) (w:World) (hh:w.heap[2]? = some (.cells (ints .u32 qH) th)) (hq:w.heap[3]? = some (.cells (ints .i64 qQ) tq)) (hkl:key.length=32) (hn:RdK .u8 B nonce v w) (h:nonce.length=12) (h1:0≤number) (h2:number≤4294967295):Calls Tryz.prog 120 #[.agg (ints .u8 key),v,.int .i64 number] w (Ret w (.tuple #[.agg (ints .u8 (Qb9 (Qbj key nonce) number)),.nilIface])):=by
  obtain ⟨a_n,c_n,rfl,-⟩:=id hn
  refine enter 21 [(0,.agg (ints .u8 (key))),(1,.slice a_n nonce.length c_n),(2,.int .i64 number)] Tryz.func120 rfl rfl kj rfl <| sgC fun K3 hK3=>Qak (ints .u8 (key)) 23 3 rfl kj kj fun g4 W1 l4 e1 r4_1=>?_
  have x1:=zbv (zbr w) e1
  have b4:=qT (zbr w).size l4
  refine Qak (ints .u8 (zae 64 0)) 112 6 rfl kj kj fun g5 W2 l5 e2 r5_2=>?_
  have x2:=zbv x1 e2
  refine sg 1 kj <| sgN hK3 <| wp_seq_k fun K6 hK6=>sgC fun K7 hK7=>sg 2 kj <| Qas (.nilIface) 118 #[.slice a_n nonce.length c_n,.int .i64 number] 11 rfl kj kj ((Qj2 nonce _ _ number _ (zby hn x2) h h1 h2)) fun W3 e3=>?_
  have x3:=zbv x2 e3
  refine sg 1 kj <| sgN hK7 <| sgB kj <| cond_false kj <| wp_skip <| hK6 _ _ <| sgC fun K9 hK9=>Qac (.agg (ints .u8 (key))) 16 rfl kj (Qae 23 _ g4 23 _ _ (Qaa (Qaa r4_1 e2) e3) rfl kj kj (isz (n:=32) kj (izT hkl))) <| sg 1 kj <| Qas (.agg (ints .u32 ((Qbj key nonce).map wv))) 130 #[.agg (ints .u8 (key)),.slice a_n nonce.length c_n] 18 rfl kj kj ((by rw [←Qoj]; exact Qok key nonce _ _ th _ (Qaa (Qaa (Qaa hh e1) e2) e3) hkl (zby hn x3) h)) fun W4 e4=>?_
  refine sg 1 kj <| Qas (.agg (ints .u8 (Qb9 (Qbj key nonce) number))) 132 #[.agg (ints .u32 ((Qbj key nonce).map wv)),.int .i64 number] 20 rfl kj kj ((Qoo (Qbj key nonce) number tq _ (Qaa (Qaa (Qaa (Qaa hq e1) e2) e3) e4) (Qe4 _ _))) fun W5 e5=>?_
  have r5_5:=(Qaa (Qaa (Qaa r5_2 e3) e4) e5)
  refine Qai g5 _ (ints .u8 (Qb9 (Qbj key nonce) number)) 112 r5_5 rfl kj (Qag 112 _ _ g5 112 _ _ r5_5 rfl kj kj (isz (n:=64) kj (izT (Qcl _ _))) (eqsz (n:=64) (izT (qZ (n:=64))) (izT (Qcl _ _))) (ints_one _ _)) fun W6 p6 r5_6=>sg 1 kj <| sgN hK9 <| wp_ret ?_
  repeat (first | with_reducible refine goR1 ?_ | with_reducible refine goR2 ?_)
  exact (show bodyPost _ _ _ .ret _ _ from ret2 (.agg (ints .u8 (Qb9 (Qbj key nonce) number))) (.nilIface) rfl (QaU g5 112 _ r5_6 kj kj (isz (n:=64) kj (izT (Qcl _ _)))) (Qa4 kj) ⟨rfl,(zbu p6 (zbv (zbv x3 e4) e5) (qT x1.size l5))⟩)
end Cha
end
section
namespace Cha
open Go Go.RowKit
open Rely Auto Own Sha
open Sha
theorem Qbt {b : List Int} (h:Qaf b) (j:Nat):0≤nth b j∧nth b j<256:=by
  unfold nth
  rw [zaR]
  rcases zbl j b.length with hj | hj
  · rw [zaM hj]
    have h1:=h _ (zaK hj)
    show 0≤b[j]∧b[j]<256
    omega
  · rw [zbm hj]; decide
def mxv (text : List Int) (ws:List Wd) (num:Int) (f:Nat→Nat) (m:Nat):List Int:=(zaY m).map fun i=>bits .xor .u8 (nth text i) (nth (Qb9 ws (num+((f (i/64):Nat):Int))) (i%64))
def mixV (ws : List Wd) (num:Int) (text:List Int):List Int:=mxv text ws num id text.length
theorem QeS (text : List Int) (ws:List Wd) (num:Int) (f:Nat→Nat) (m:Nat):(mxv text ws num f m).length=m:=by simp [mxv]
end Cha
end
section
namespace Sha
open Go Go.RowKit
open Rely Auto Own
section
variable {P : Program} {ρ : Operand → Value} {o : Oper} {w : World}
theorem Qe6 (t : TypeId) (x y:Operand) (k:IntKind) (n g off len cap:Nat) (e:TypeId) (a:Option Addr) (z:Int) (ha:a=some ⟨g,off,none⟩) (hz:z=(n:Int)) (ho:o.op=.indexAddr t x y) (hx:ρ x=.slice a len cap) (hy:ρ y=.int k z)
    (hu:P.underlying t=some (.slice e)) (hs:(P.info? e).map (·.size)=some 1) (hn:n<len):(execOp ρ o).run P w=.ok (.value (.pointer (some ⟨g,off+n,none⟩))) w:=by
  subst ha; subst hz
  exact QcQ t x y k n g off len cap e ho hx hy hu hs hn
end
theorem QdA {P : Program} {ρ:Operand→Value} {o:Oper} {w:World} (x:Operand) (i:Nat) (vs:Array Value) (u:Value) (ho:o.op=.extract x i) (hx:ρ x=.tuple vs) (hi:vs[i]? = some u):(execOp ρ o).run P w=.ok (.value u) w:=by
  unfold execOp
  simp [ho,hx,Instr.extract,hi]
theorem Qit {k : IntKind} {T:TypeId} {base g:Nat} {xs:List Int} {v:Value} {W:World} (h:OwnN k T base xs v W) (hg:W.heap.size≤g):v.ownBlock≠some g:=fun e=>by have:=h.lt e; omega
theorem QpX (zs : List Int) (m:Nat) (y:Int) (h:m<zs.length):zs.take m++[y]++zs.drop (m+1)=zs.set m y:=by
  rw [List.set_eq_take_append_cons_drop,if_pos h,za2]; rfl
theorem Qib {P : Program} {k:IntKind} {T:TypeId} {b:Nat} {ρ:Operand→Value} {o:Oper} {W:World} (s x:Operand) (t:TypeId) (ho:o.op=.call { callee:=.builtin .append,args:=#[s,x],argTypes:=#[t,t] })
    (ht:P.underlying t=some (.slice T)) (hi:(P.info? T).map (fun i=>(i.zero,i.size,i.bytes))=some (some (.int k 0),1,b)) {g m n gy:Nat} {zs:List Int} {y:Int} {Ty:TypeId} (hs:ρ s=.slice (some ⟨g,0,none⟩) m n) (hx:ρ x=.slice (some ⟨gy,0,none⟩) 1 1)
    (hg:W.heap[g]? = some (.cells (ints k zs) T)) (hz:zs.length=n) (hm:m<n) (hy:W.heap[gy]? = some (.cells (ints k [y]) Ty)) :
    (execOp ρ o).run P W=.ok (.value (.slice (some ⟨g,0,none⟩) (m+1) n)) (W.setRow g (ints k (zs.set m y))):=by
  obtain ⟨i,hq,hi1,hi2,hi3⟩:=Qpx hi
  have hr:=run_append_room (P:=P) W t o.type T i ht hq g m n (ints k zs) hg ⟨gy,0,none⟩ 1 1 ([y].map (zam k)) (by simp [hi2]) (Qir (k:=k) (ys:=[y]) fun j hj=>by rw [Nat.zero_add]; exact QaO hy (Qay k [y] j hj)) (QkG _ [y]) (by omega) (by rw [hi2,QaD]; simp; omega)
  have e:((ints k zs).toList.take (m*i.size)++[y].map (zam k)++(ints k zs).toList.drop (m*i.size+([y].map (zam k)).length)).toArray=ints k (zs.set m y):=by
    rw [←QpX zs m y (by omega),hi2,Nat.mul_one]
    simp [ints]
  rw [e] at hr
  unfold execOp
  simp only [ho,resolve,invoke,builtin,za3,za4,za5,za6,za7,za8,hs,hx,hr]
section
variable {ds : List Deferred} {Fe : Fence} {nf : Nat} {P : Program} {ops : Array Oper} {Q : Exit → Act → World → Prop} {rest : List Oper} {o : Oper} {N : Nat} {L : Env} {w : World}
theorem Qpy {g : Nat} {old cs:Array Value} {T:TypeId} (v:Value) (d:Nat) (hd:o.dst=some d) (hF:Free Fe nf P) (hnd:Qc7 o=true) (hg:Qcd ops o N L=some true) (r:w.heap[g]? = some (.cells old T)) (h:(execOp (Rely.look (envN N L)) o).run P w=.ok (.value v) (w.setRow g cs))
    (k:∀ W':World,Puts w g W'→W'.heap[g]? = some (.cells cs T)→WLI Fe nf P ops Q rest (Qau ds N ((d,v)::L)) W'):WLI Fe nf P ops Q (o::rest) (Qau ds N L) w :=
  Qmm _ _ d hd hF hnd hg h (k _ (QbO _ _ _) (setRow_heap _ _ _ _ _ _ r))
end
section
variable {ds : List Deferred} {P : Program} {ops : Array Oper} {Q : Exit → Act → World → Prop} {rest : List Oper} {o : Oper} {N : Nat} {L : Env} {w : World}
theorem Qlx (cs : Array Value) (T:TypeId) (m n d:Nat) (hd:o.dst=some d) (hg:Qcd ops o N L=some true) (h:(execOp (Rely.look (envN N L)) o).run P w=.ok (.value (.slice (some ⟨w.heap.size,0,none⟩) m n)) (w.alloc (.cells cs T)))
    (k:∀ (g:Nat) (W:World),w.heap.size≤g→Ext w W→W.heap[g]? = some (.cells cs T)→WL P ops Q rest (Qau ds N ((d,.slice (some ⟨g,0,none⟩) m n)::L)) W):WL P ops Q (o::rest) (Qau ds N L) w :=
  Qcs _ _ d hd hg h (k _ _ (qR _) (QaK _ _) (heap_alloc_new _ _))
end
theorem Ql3 {P : Program} {ρ:Operand→Value} {o:Oper} {w:World} {k:IntKind} (t:TypeId) (x y:Operand) (kl kc:IntKind) (m n:Nat) (e:TypeId) (ho:o.op=.makeSlice t x y) (hx:ρ x=.int kl m) (hy:ρ y=.int kc n)
    (hu:P.underlying t=some (.slice e)) (hi:(P.info? e).map (fun i=>(i.zero,i.size,i.bytes))=some (some (.int k 0),1,8)∨(P.info? e).map (fun i=>(i.zero,i.size,i.bytes))=some (some (.int k 0),1,1)) (hm:m≤n) (hn:n≤16777216) :
    (execOp ρ o).run P w=.ok (.value (.slice (some ⟨w.heap.size,0,none⟩) m n)) (w.alloc (.cells (ints k (zae n 0)) e)):=by
  cases hq:P.info? e with
  | none=>rcases hi with hi | hi <;> simp [hq] at hi
  | some i =>
    have hz:i.zero=some (.int k 0)∧i.size=1∧i.bytes≤8:=by
      rcases hi with hi | hi <;> simp [hq] at hi <;> exact ⟨hi.1,hi.2.1,by omega⟩
    have hb:(i.bytes:Int)*(n:Int)≤281474976710656:=by
      have h1:(i.bytes:Int)*(n:Int)≤8*(n:Int):=Int.mul_le_mul_of_nonneg_right (by omega) (by omega)
      omega
    have h:=run_make w t e i (.int k 0) hu hq hz.1 kl kc (m:Int) (n:Int) (by omega) (by omega) hb (by omega)
    rw [hz.2.1,zbn,zbn,Qix] at h
    unfold execOp
    simp only [ho,hx,hy,za3,za4,h,za5]
theorem QfG {gs : List Nat} {V W:World} (q:Qa0 gs V W) (h:∀ g∈gs,∃ cs t,V.heap[g]? = some (.cells cs t)):KeepsOthers V W :=
  ⟨q.size,fun k o hk ho=>by
    by_cases e:k∈gs
    · obtain ⟨cs,t,r⟩:=h k e
      rw [r] at hk
      cases hk
      cases ho
    · exact (q.block k (Qa7 hk) e).trans hk⟩
end Sha
end
section
namespace Auto
open Go Go.RowKit
open Rely Own
variable {ds : List Deferred} {Fe : Fence} {nf : Nat}
section
variable {P : Program} {ops : Array Oper} {Q : Exit → Act → World → Prop} {rest : List Oper} {o : Oper} {N : Nat} {L : Env} {w : World}
theorem Qpz (v : Value) (f:FuncId) (args:Array Value) (d:Nat) (hd:o.dst=some d) (hF:Free Fe nf P) (hnd:Qc7 o=true) (hg:Qcd ops o N L=some true) (h:(execOp (Rely.look (envN N L)) o).run P w=.ok (.enter f args) w)
    (hc:Calls P f args w (Ret w v)) (k:∀ W:World,Ext w W→WLI Fe nf P ops Q rest (Qau ds N ((d,v)::L)) W):WLI Fe nf P ops Q (o::rest) (Qau ds N L) w :=
  Qmn hF hnd hg fun K hK=>by
    rw [h]
    refine ⟨hF.dp,(hF.calls hc).mono ?_⟩
    rintro e w' ⟨rfl,hw⟩
    show K _ _
    rw [hd,Qby]
    exact hK _ _ (k _ hw)
end
section
variable {P : Program} {Q : Exit → Act → World → Prop} {w : World} {N : Nat} {L : Env}
end
theorem Qic (N : Nat) (L:Env) (p q:Nat) (v u:Value):({ tmps:=(#[p,q].zip #[v,u]).foldl (fun t (p,v)=>t.setIfInBounds p v) (Qau ds N L).tmps,defers:=[] }:Act)=Qau [] N ((q,u)::(p,v)::L):=by
  rw [←Qby,←Qby]
  simp [Act.put,Qau]
theorem Qja {α : Type} {P:Program} {g:Operand} {p q:Tmp} {assign body:Code} {Q:Exit→Act→World→Prop} {N:Nat} {L:Env} {w:World}
    {gf:Nat} {lb:Array Value} (hg:Rely.look (envN N L) g=.func (.func gf) #[] lb) (eg:∀ args w,(callFunc gf args).run P w=.ok (.enter gf args) w)
    {enc enc2:α→Value} {Kp:World→World→Prop} {S Sp:List α→Prop} {M:Nat} {w0:World} (hseq:SeqStopsK Fence.wide 2 P gf lb (fun x=>#[enc x,enc2 x]) Kp S Sp M w0)
    (hKt:∀ {A B C:World},Kp A B→Kp B C→Kp A C) (hKb:∀ (W:World) (l:Nat) (o o':Obj),w.heap.size≤l→W.heap[l]? = some o→o.isCells=false→o.isWalk=false→Kp W (W.putObj l o')) (hb0:Below w0.heap.size w0 w)
    (I:List α→World→Prop) (Ix:Code→List α→World→Prop) (hI:OwnFrom w.heap.size I) (hIx:∀ c,OwnFrom w.heap.size (Ix c)) (h0:I [] w)
    (hKe:∀ {A B:World},Ext A B→Kp A B) (hIe:∀ pre {A B:World},I pre A→Ext A B→I pre B) (hIs:∀ pre W,I pre W→w.heap.size≤W.heap.size)
    (asg:α→Nat→Env) (cs:α→Array Value) (T:TypeId)
    (hassign:∀ (l:Nat) (x:α) (W:World) (K:Act→World→Prop),(∀ g W',W.heap.size≤g→Ext W W'→W'.heap[g]? = some (.cells (cs x) T)→K (Qau [] N (asg x g++L)) W')→assign.wpIn (Fence.wide.inRound l) 1 P (Exit.then K (fun _ _ _=>False)) (Qau [] N ((q,enc2 x)::(p,enc x)::L)) W)
    (hbody:∀ (l:Nat) (pre:List α) (x:α) (g:Nat) (W:World),w.heap.size≤g→I pre W→W.heap[g]? = some (.cells (cs x) T)→pre.length<M→body.wpIn (Fence.wide.inRound l) 1 P (ownPostK Kp I Ix (pre++[x]) W) (Qau [] N (asg x g++L)) W)
    (hdone:∀ (D:Nat) (xs:List α) (W:World),w.heap.size≤D→S xs→I xs W→W.heap[D]? = some (.deferred (some []))→Q .normal (Qau (mark D::ds) N L) W)
    (hstop:∀ (D:Nat) (c:Code) (pre:List α) (W:World),w.heap.size≤D→Sp pre→Ix c pre W→W.heap[D]? = some (.deferred (some []))→c.wp P Q (Qau (mark D::ds) N L) W) :
    (Code.rangeFunc g #[p,q] assign body).wp P Q (Qau ds N L) w:=by
  refine (wpIn_wide (n:=3)).1 <| wpIn_rangeFunc_ownH rfl (by omega) (by rw [Qb3]; exact hg) trivial eg (w0:=w0) hseq hKt hKb hb0 (fun _=>rfl) I Ix hI hIx h0
    (fun x a' W=>∃ g,a'=Qau [] N (asg x g++L)∧w.heap.size≤g∧W.heap[g]? = some (.cells (cs x) T)) ?_ (fun l pre x W K hi hK=>?_) ?_ ?_ ?_
  · rintro x a' _ X Y row ⟨g,e,hl,r⟩ hgr hr
    exact ⟨g,e,hl,Qbx r hgr (fun q e=>(hr q e).2)⟩
  · rw [Qic]
    refine hassign l x W K fun g W' hg' e r=>hK _ _ ((Qd1 e).from _) (hKe e) (hIe pre hi e) ⟨g,rfl,qT (hIs pre W hi) hg',r⟩
  · rintro l pre x a' W _ _ hi ⟨g,rfl,hl,r⟩ hlen
    exact wpIn_mono (hbody l pre x g W hl hi r hlen) ownPostG_of_ownPostK
  · intro D xs W h1 h2 h3 h4
    exact hdone D xs W h1 h2 h3 h4
  · intro D c pre W h1 h2 h3 h4
    exact wpIn_wide.2 (hstop D c pre W h1 h2 h3 h4)
theorem Qjr {α : Type} {P:Program} {body:Code} {Q:Exit→Act→World→Prop} {N:Nat} {L:Env} {w:World} (live:α→Env) (I:α→World→Prop) (μ:α→Nat) (s0:α) (hL:Qj7 L (live s0)) (h0:I s0 w)
    (round:∀ (s:α) (X:Env) (W:World),I s W→body.wpIn Fe nf P (Exit.then (Goes ds N live I μ s) Q) (Qau ds N (live s++X)) W):(Code.loop body).wpIn Fe nf P Q (Qau ds N L) w:=by
  rw [←Qg7 hL]
  refine Go.wpIn_loop_ghost (fun n a W=>∃ (s:α) (X:Env),a=Qau ds N (live s++X)∧I s W∧μ s=n) (μ s0) ⟨s0,L,rfl,h0,rfl⟩ ?_
  rintro n a W ⟨s,X,rfl,hI,rfl⟩
  refine wpIn_mono (round s X W hI) fun e a' w' h=>?_
  cases e <;> try exact h
  obtain ⟨s',X',h1,h2,h3⟩:=h
  exact ⟨μ s',h3,s',X',h1,h2,rfl⟩
theorem QkU {P : Program} {id:Nat} {Q:Exit→Act→World→Prop} {N:Nat} {L:Env} {w:World} {l:List Oper} (n:Nat) (S:List Src) (hFr:Free Fe nf P) (hdf:(l.all Qc7)=true) (hm:P.follows .mixedOrders=true) (hok:ok l n N S=true)
    (h:∀ F:List KE→Prop,(∀ C,(∀ W,Ext w W→finE (fun L W=>WLI Fe nf P l.toArray Q (l.drop n) (Qau ds N L) W) (l.take n) C L W)→F C)→QbL P Ext w.drew N L F (l.take n) S []) :
    (Code.region id l.toArray true).wpIn Fe nf P Q (Qau ds N L) w :=
  QgU Ext zbr zbs n S hFr hdf hm hok fun F hF=>h F fun C hC=>hF C fun W hR=>hC W (zbs (Qah w) hR)
section
variable {P : Program} {ops : Array Oper} {Q : Exit → Act → World → Prop} {rest : List Oper} {o : Oper} {N : Nat} {L : Env} {W : World}
end
theorem goXj {K : Act→World→Prop} {Q:Exit→Act→World→Prop} {a:Act} {w:World} {n m:Nat} (h:n≠m) (k:Q (.exit n) a w):Exit.inBlock m Q (.exit n) a w:=by
  unfold Exit.inBlock
  simp [h]
  exact k
end Auto
end
section
namespace Cha
open Go Go.RowKit
open Rely Auto Own Sha
open Sha
set_option maxRecDepth 100000 in
theorem Qik (m : Nat) (gs:List Nat) (g1 g2:Nat) (ws:List Wd) (number:Int) (r:Nat) (tq:TypeId) (w:World) (hr:number+(r:Int)=4294967296) (h1:0≤number) (h2:number≤4294967295) (hw:ws.length=16)
  (hqw:w.heap[3]? = some (.cells (ints .i64 qQ) tq)) (r1w:w.heap[g1]? = some (.cells #[.int .i64 number] 3)) (r2w:w.heap[g2]? = some (.cells (ints .u32 (ws.map wv)) 193)) (n1:g1∉gs) (n2:g2∉gs) (nq:3∉gs) :
  SeqStopsK Fence.wide m Tryz.prog 131 #[.pointer (some ⟨g1,0,none⟩),.pointer (some ⟨g2,0,none⟩)] (fun i:Nat=>#[zam .i64 (number+((i:Nat):Int)),Value.agg (ints .u8 (Qb9 ws (number+((i:Nat):Int))))]) (Qcn gs) (fun ys=>ys=zaY r) (fun ys=>∃ k,ys=zaY k∧k≤r) r w:=fun l J Jx Wi hW hJ hJx hY h0=>by
 refine callsIn_wide.2 ?_
 have hqi:=Qaa hqw hW
 have r1:=Qaa r1w hW
 refine enter 17 [(0,.func (.yield l) #[] #[]),(1,.pointer (some ⟨g1,0,none⟩)),(2,.pointer (some ⟨g2,0,none⟩))] Tryz.func131 rfl rfl kj rfl <| sgC fun K4 hK4=>Qac (.int .i64 number) 5 rfl kj (Qaj 3 _ g1 0 3 _ (.int .i64 number) _ r1 rfl kj kj kj) <| sg 1 kj <| sgN hK4 <| wp_block <| QaT (fun (s1:Nat)=>[(0,.func (.yield l) #[] #[]),(1,.pointer (some ⟨g1,0,none⟩)),(2,.pointer (some ⟨g2,0,none⟩)),(4,.int .i64 (number+((s1:Nat):Int)))]) (fun (s1:Nat) W=>(s1≤r)∧(J (zaY s1) W)∧(W.heap[g1]? = some (.cells #[.int .i64 number] 3))∧(W.heap[g2]? = some (.cells (ints .u32 (ws.map wv)) 193))∧(W.heap[3]? = some (.cells (ints .i64 qQ) tq))∧(Grew Wi W)) (fun (s1:Nat)=>r-s1) 0 ⟨kj,kj,kj,(congrArg (zam .i64) (show number=number+((0:Nat):Int) by omega)),trivial⟩ ⟨(zal _),(show J (zaY 0) _ from h0),r1,(Qaa r2w hW),hqi,(Grew.refl Wi)⟩ fun s1 X1 V1 hI1=>?_
 obtain ⟨k,hs1⟩:∃ z,z=s1:=⟨_,rfl⟩
 subst hs1
 obtain ⟨hkl_,hJ1,rr1,rr2,rrq,xx1⟩:=hI1
 replace hkl_:k≤r:=hkl_
 replace hJ1:J (zaY k) V1:=hJ1
 replace rr1:V1.heap[g1]? = some (.cells #[.int .i64 number] 3):=rr1
 replace rr2:V1.heap[g2]? = some (.cells (ints .u32 (ws.map wv)) 193):=rr2
 replace rrq:V1.heap[3]? = some (.cells (ints .i64 qQ) tq):=rrq
 replace xx1:Grew Wi V1:=xx1
 refine wp_seq_k fun K5 hK5=>sgB kj <| QaC (t:=decide ((number+((k:Nat):Int))≤4294967295)) kj (fun c7=>?_) (fun c7=>?_)
 ·skip
  have hlt:k<r:=by have:=of_decide_eq_true c7; omega
  refine wp_skip <| hK5 _ _ <| wp_seq_k fun K8 hK8=>wp_block <| wp_seq_k fun K9 hK9=>(wpIn_wide (n:=m)).1 <| Qb7 <| QbZ (.func (.yield l) #[] #[]) 10 rfl (QbJ _ _) rfl kj kj <| QbZ (.int .i64 (number+((k:Nat):Int))) 11 rfl (QbJ _ _) rfl kj kj <| QbZ (.agg (ints .u32 (ws.map wv))) 12 rfl (QbJ _ _) rfl kj (Qae 193 _ g2 193 _ _ rr2 rfl kj kj (isz (n:=16) kj (izT (Qdc hw)))) ?_
  refine QbZ (.int .i64 (number+((k:Nat):Int))) 13 rfl (QbJ _ _) rfl kj kj <| Qpz (.agg (ints .u8 (Qb9 ws (number+((k:Nat):Int))))) 132 #[.agg (ints .u32 (ws.map wv)),.int .i64 (number+((k:Nat):Int))] 14 rfl (QbJ _ _) rfl kj kj ((Qoo ws (number+((k:Nat):Int)) tq _ rrq hw)) fun W2 e2=>QjZ (m:=m) (l:=l) (args:=#[.int .i64 (number+((k:Nat):Int)),.agg (ints .u8 (Qb9 ws (number+((k:Nat):Int))))]) 15 rfl rfl kj kj (hY (zaY k) k W2 (Qhf hJ hJ1 (zbs (zbr V1) e2)) (by rw [zaZ]; omega)) (fun W' hA=>?_) (fun W' hA=>?_)
  ·skip
   obtain ⟨W3,hW3⟩:∃ z,z=W':=⟨_,rfl⟩
   rw [←hW3] at hA ⊢
   obtain ⟨hj10,hk10⟩:=hA
   refine QbZ (.bool false) 16 rfl (QbJ _ _) rfl kj kj <| Qd2 <| hK9 _ _ <| cond_false kj <| wp_skip <| hK8 _ _ <| Qao <| sg 1 kj <| Qac (.int .i64 (number+((k+1:Nat):Int))) 9 rfl kj (Qam (u:=.int .i64 (zao.wrap ((number+((k:Nat):Int))+1))) kj (congrArg (zam .i64) (by rw [show number+((k:Nat):Int)+1=number+((k+1:Nat):Int) by omega]; exact IntWalk.i64_in _ (by omega)))) ?_
   refine sg 1 kj <| Qaz ?_
   repeat (first | with_reducible refine goX1 ?_ | with_reducible refine goX2 ?_ | with_reducible refine goX3 ?_)
   exact QaL (k+1) ⟨kj,kj,kj,kj,trivial⟩ ⟨(by omega),(by rw [zba]; exact hj10),(Qcn.row hk10 (Qaa rr1 e2) n1),(Qcn.row hk10 (Qaa rr2 e2) n2),(Qcn.row hk10 (Qaa rrq e2) nq),(Grew.keepC (Grew.ext xx1 e2) hk10)⟩ (by show r-(k+1)<r-k; omega)
  ·skip
   obtain ⟨W3,hW3⟩:∃ z,z=W':=⟨_,rfl⟩
   rw [←hW3] at hA ⊢
   refine QbZ (.bool true) 16 rfl (QbJ _ _) rfl kj kj <| Qd2 <| hK9 _ _ <| cond_true kj <| wp_ret ?_
   repeat (first | with_reducible refine goR1 ?_ | with_reducible refine goR2 ?_)
   exact (show bodyPost _ _ _ .ret _ _ from ret0 rfl ⟨⟨_,rfl⟩,.inr ⟨_,⟨k+1,zba.symm,hlt⟩,hA⟩⟩)
 ·skip
  have hke:k=r:=by have:=of_decide_eq_false c7; omega
  refine wp_exit ?_
  repeat (first | with_reducible refine goX1 ?_ | with_reducible refine goX2 ?_ | with_reducible refine goX3 ?_)
  exact (show bodyPost _ _ _ .normal _ _ from end0 rfl ⟨⟨_,rfl⟩,.inl ⟨_,congrArg zaY hke,hJ1⟩⟩)
set_option maxRecDepth 100000 in
theorem Qnk (key nonce:List Int) (v:Value) (B:Nat) (number:Int) (th tq:TypeId) (w:World) (hh:w.heap[2]? = some (.cells (ints .u32 qH) th)) (hq:w.heap[3]? = some (.cells (ints .i64 qQ) tq)) (hkl:key.length=32) (hn:RdK .u8 B nonce v w) (h:nonce.length=12) (h1:0≤number) (h2:number≤4294967295):Calls Tryz.prog 119 #[.agg (ints .u8 key),v,.int .i64 number] w (QcL w (fun v W=>∃ g1 g2,v=.func (.func 131) #[] #[.pointer (some ⟨g1,0,none⟩),.pointer (some ⟨g2,0,none⟩)]∧w.heap.size≤g1∧w.heap.size≤g2∧W.heap[g1]? = some (.cells #[.int .i64 number] 3)∧W.heap[g2]? = some (.cells (ints .u32 ((Qbj key nonce).map wv)) 193))):=by
  obtain ⟨a_n,c_n,rfl,-⟩:=id hn
  refine enter 16 [(0,.agg (ints .u8 (key))),(1,.slice a_n nonce.length c_n),(2,.int .i64 number)] Tryz.func119 rfl rfl kj rfl <| sgC fun K3 hK3=>Qak (ints .u8 (key)) 23 3 rfl kj kj fun g4 W1 l4 e1 r4_1=>?_
  have x1:=zbv (zbr w) e1
  have b4:=qT (zbr w).size l4
  refine Qak (#[.int .i64 number]) 3 5 rfl kj kj fun g5 W2 l5 e2 r5_2=>?_
  have x2:=zbv x1 e2
  refine sg 1 kj <| sgN hK3 <| wp_seq_k fun K6 hK6=>sgC fun K7 hK7=>sg 1 kj <| Qac (.int .i64 number) 9 rfl kj (Qaj 3 _ g5 0 3 _ (.int .i64 number) _ r5_2 rfl kj kj kj) <| Qas (.nilIface) 118 #[.slice a_n nonce.length c_n,.int .i64 number] 10 rfl kj kj ((Qj2 nonce _ _ number _ (zby hn x2) h h1 h2)) fun W3 e3=>?_
  have x3:=zbv x2 e3
  refine sg 1 kj <| sgN hK7 <| cond_false kj <| wp_skip <| hK6 _ _ <| sgC fun K8 hK8=>Qac (.agg (ints .u8 (key))) 12 rfl kj (Qae 23 _ g4 23 _ _ (Qaa (Qaa r4_1 e2) e3) rfl kj kj (isz (n:=32) kj (izT hkl))) <| sg 1 kj <| Qas (.agg (ints .u32 ((Qbj key nonce).map wv))) 130 #[.agg (ints .u8 (key)),.slice a_n nonce.length c_n] 14 rfl kj kj ((by rw [←Qoj]; exact Qok key nonce _ _ th _ (Qaa (Qaa (Qaa hh e1) e2) e3) hkl (zby hn x3) h)) fun W4 e4=>?_
  have x4:=zbv x3 e4
  refine Qak (ints .u32 ([0,0,0,0,0,0,0,0,0,0,0,0,0,0,0,0])) 193 7 rfl kj kj fun g9 W5 l9 e5 r9_5=>?_
  have b9:=qT x4.size l9
  refine Qai g9 _ (ints .u32 ((Qbj key nonce).map wv)) 193 r9_5 rfl kj (Qag 193 _ _ g9 193 _ _ r9_5 rfl kj kj (isz (n:=16) kj (izT (Qdc (Qe4 _ _)))) (eqsz (n:=16) kj (izT (Qdc (Qe4 _ _)))) (ints_one _ _)) fun W6 p6 r9_6=>sgN hK8 <| sgB kj <| wp_ret ?_
  repeat (first | with_reducible refine goR1 ?_ | with_reducible refine goR2 ?_)
  have r5_4:=(Qaa (Qaa r5_2 e3) e4)
  exact (show bodyPost _ _ _ .ret _ _ from ret1 (.func (.func 131) #[] #[.pointer (some ⟨g5,0,none⟩),.pointer (some ⟨g9,0,none⟩)]) rfl (Qa4 kj) ⟨_,rfl,(zbu p6 (zbv x4 e5) b9),_,_,rfl,(qT x1.size l5),b9,(rpn p6 r5_4 e5 l9),r9_6⟩)
end Cha
end
section
namespace Cha
open Go Go.RowKit
open Rely Auto Own Sha
open Sha
def pg (pre : List Nat) (j:Nat):Nat:=pre.getD j 0
theorem QoX (pre : List Nat) (x:Nat):pg (pre++[x]) pre.length=x:=by simp [pg]
theorem Qrg (pre : List Nat) (x j:Nat) (h:j<pre.length):pg (pre++[x]) j=pg pre j:=by
  unfold pg
  rw [zaR,zaR,List.getElem?_append_left h]
theorem Qnl (k j:Nat) (h:j<k):pg (zaY k) j=j:=by
  unfold pg
  rw [zaR,zbj h]; rfl
theorem QjV (text : List Int) (ws:List Wd) (num:Int) (f g:Nat→Nat) (n m:Nat) (h:∀ i,i<m→f (i/64)=g (i/64)):(mxv text ws num f n).take m=(mxv text ws num g n).take m:=by
  unfold mxv
  rw [←za0,←za0,List.take_range]
  refine List.map_congr_left fun i hi=>?_
  rw [List.mem_range] at hi
  rw [h i (by omega)]
theorem QlR (text : List Int) (ws:List Wd) (num:Int) (f:Nat→Nat) (n m:Nat) (h:m<n):nth (mxv text ws num f n) m=bits .xor .u8 (nth text m) (nth (Qb9 ws (num+((f (m/64):Nat):Int))) (m%64)):=by
  rw [show nth (mxv text ws num f n) m=(mxv text ws num f n).getD m 0 from rfl]
  unfold mxv
  rw [zaR,zbi,zbj h]; rfl
theorem Qpk (text : List Int) (ws:List Wd) (num:Int) (pre:List Nat) (x n:Nat):Qcm (mxv text ws num (pg pre) n) n (64*pre.length)=Qcm (mxv text ws num (pg (pre++[x])) n) n (64*pre.length):=by
  unfold Qcm
  rw [QjV text ws num (pg pre) (pg (pre++[x])) n _ fun i hi=>(Qrg pre x (i/64) (by omega)).symm]
theorem Qqq (text : List Int) (ws:List Wd) (num:Int) (pre:List Nat) (x n j:Nat) (hj:j<64) (h:64*pre.length+j<n):nth (mxv text ws num (pg (pre++[x])) n) (64*pre.length+j)=bits .xor .u8 (nth text (64*pre.length+j)) (nth (Qb9 ws (num+((x:Nat):Int))) j):=by
  rw [QlR _ _ _ _ _ _ h,show (64*pre.length+j)/64=pre.length by omega,show (64*pre.length+j)%64=j by omega,QoX]
theorem QlS (text : List Int) (ws:List Wd) (num:Int) (k:Nat) (h:text.length≤64*k):mxv text ws num (pg (zaY k)) text.length=mixV ws num text:=by
  have h2:=QjV text ws num (pg (zaY k)) id text.length text.length fun i hi=>Qnl k (i/64) (by omega)
  rw [zax (by rw [QeS]; omega),zax (by rw [QeS]; omega)] at h2
  exact h2
theorem Qcv (ws : List Wd) (num:Int) (text:List Int):(mixV ws num text).length=text.length:=QeS _ _ _ _ _
set_option maxRecDepth 100000 in
theorem Qrz (key nonce text:List Int) (v v2:Value) (B B2:Nat) (number:Int) (th tq:TypeId) (w:World) (hh:w.heap[2]? = some (.cells (ints .u32 qH) th)) (hq:w.heap[3]? = some (.cells (ints .i64 qQ) tq)) (hkl:key.length=32) (hn:RdK .u8 B nonce v w) (ht:RdK .u8 B2 text v2 w) (h:nonce.length=12) (r:Nat) (hr:number+(r:Int)=4294967296) (h1:0≤number) (h2:number≤4294967295) (hfit:text.length≤64*r) (htl:text.length≤2000000):Calls Tryz.prog 102 #[.agg (ints .u8 key),v,.int .i64 number,v2] w (QcL w (fun v W=>∃ u,v=.tuple #[u,.nilIface]∧OwnN .u8 5 w.heap.size (mixV (Qbj key nonce) number text) u W)):=by
 obtain ⟨a_n,c_n,rfl,-⟩:=id hn
 obtain ⟨a_t,c_t,rfl,-⟩:=id ht
 refine Qm1 64 [(0,.agg (ints .u8 (key))),(1,.slice a_n nonce.length c_n),(2,.int .i64 number),(3,.slice a_t text.length c_t)] Tryz.func102 rfl rfl kj rfl <| sgC fun K3 hK3=>Qak (ints .u8 (key)) 23 4 rfl kj kj fun g4 W1 l4 e1 r4_1=>?_
 have x1:=zbv (zbr w) e1
 have b4:=qT (zbr w).size l4
 refine Qak (#[.slice a_t text.length c_t]) 24 7 rfl kj kj fun g5 W2 l5 e2 r5_2=>?_
 have x2:=zbv x1 e2
 have b5:=qT x1.size l5
 refine sg 2 kj <| sgN hK3 <| wp_scope_straight <| wp_seq_k fun K6 hK6=>sgC fun K7 hK7=>sg 2 kj <| Qas (.nilIface) 118 #[.slice a_n nonce.length c_n,.int .i64 number] 19 rfl kj kj ((Qj2 nonce _ _ number _ (zby hn x2) h h1 h2)) fun W3 e3=>?_
 have x3:=zbv x2 e3
 refine sg 1 kj <| sgN hK7 <| sgB kj <| cond_false kj <| wp_skip <| hK6 _ _ <| wp_seq_k fun K9 hK9=>sgC fun K10 hK10=>?_
 have r5_3:=(Qaa r5_2 e3)
 refine Qac (.slice a_t text.length c_t) 23 rfl kj (Qaj 24 _ g5 0 24 _ (.slice a_t text.length c_t) _ r5_3 rfl kj kj kj) <| sg 1 kj <| Qac (.int .i64 ((text.length+64:Nat):Int)) 25 rfl kj (Qam (u:=.int .i64 (zao.wrap (((text.length:Nat):Int)+64))) kj (congrArg (zam .i64) (i64n _ _ (by omega) (by omega)))) <| Qac (.int .i64 (((text.length+64)-1:Nat):Int)) 26 rfl kj (Qam (u:=.int .i64 (zao.wrap (((text.length+64:Nat):Int)-1))) kj (congrArg (zam .i64) (i64n _ _ (by omega) (by omega)))) <| Qac (.int .i64 ((((text.length+64)-1)/64:Nat):Int)) 27 rfl kj (Qam (u:=.int .i64 (zao.wrap (Int.tdiv ((((text.length+64)-1:Nat):Int)) (64)))) kj (congrArg (zam .i64) (Qes _ 64 (by omega)))) <| sg 1 kj <| sgN hK10 <| sgC fun K11 hK11=>sg 2 kj <| Qac (.int .i64 (((r-1:Nat):Int))) 30 rfl kj (Qam (u:=.int .i64 (zao.wrap (4294967295-number))) kj (congrArg (zam .i64) (by rw [show (4294967295-number:Int)=((r-1:Nat):Int) by omega]; exact IntWalk.i64_in _ (by omega)))) ?_
 refine Qac (.int .i64 (((r-1)+1:Nat):Int)) 31 rfl kj (Qam (u:=.int .i64 (zao.wrap ((((r-1:Nat):Int))+1))) kj (congrArg (zam .i64) (i64n _ _ (by omega) (by omega)))) <| Qac (.bool false) 32 rfl kj (Qam (u:=.bool (decide (((((text.length+64)-1)/64:Nat):Int)>(((r-1)+1:Nat):Int)))) kj (congrArg zbd (decide_eq_false (by omega)))) <| sgN hK11 <| cond_false kj <| wp_skip <| hK9 _ _ <| sgC fun K12 hK12=>Qac (.slice a_t text.length c_t) 34 rfl kj (Qaj 24 _ g5 0 24 _ (.slice a_t text.length c_t) _ r5_3 rfl kj kj kj) <| sg 1 kj <| Qlx (ints .u8 (zae (text.length) 0)) 5 0 (text.length) 36 rfl kj (Ql3 24 _ _ .i64 .i64 0 (text.length) 5 rfl kj kj kj (.inr kj) (zal _) (by omega)) fun g13 W4 l13 e4 r13_4=>?_
 have x4:=zbv x3 e4
 have b13:=qT x3.size l13
 refine Qak (#[.slice none 0 0]) 24 12 rfl kj kj fun g14 W5 l14 e5 r14_5=>?_
 have b14:=qT x4.size l14
 refine Qai g14 _ (#[.slice (some ⟨g13,0,none⟩) 0 text.length]) 24 r14_5 rfl kj (QbU 24 _ _ g14 0 24 _ (.slice (some ⟨g13,0,none⟩) 0 text.length) r14_5 rfl kj kj kj kj kj rfl) fun W6 p6 r14_6=>?_
 have x6:=zbu p6 (zbv x4 e5) b14
 refine sgN hK12 <| wp_seq_k fun K15 hK15=>wp_label <| hK15 _ _ <| wp_seq_k fun K16 hK16=>sgC fun K17 hK17=>?_
 have r4_4:=(Qaa (Qaa (Qaa r4_1 e2) e3) e4)
 refine Qac (.agg (ints .u8 (key))) 37 rfl kj (Qae 23 _ g4 23 _ _ (rpn p6 r4_4 e5 l14) rfl kj kj (isz (n:=32) kj (izT hkl))) <| sg 2 kj ?_
 have r2_4:=(Qaa (Qaa (Qaa (Qaa hh e1) e2) e3) e4)
 have r1_4:=(Qaa (Qaa (Qaa (Qaa hq e1) e2) e3) e4)
 have r1_6:=(rpn p6 r1_4 e5 l14)
 refine Qaw (fun v W'=>(fun v W=>∃ g1 g2,v=.func (.func 131) #[] #[.pointer (some ⟨g1,0,none⟩),.pointer (some ⟨g2,0,none⟩)]∧W6.heap.size≤g1∧W6.heap.size≤g2∧W.heap[g1]? = some (.cells #[.int .i64 number] 3)∧W.heap[g2]? = some (.cells (ints .u32 ((Qbj key nonce).map wv)) 193)) v W'∧Ext W6 W') 119 #[.agg (ints .u8 (key)),.slice a_n nonce.length c_n,.int .i64 number] 40 rfl kj kj ((Qnk key nonce _ _ number th tq _ (rpn p6 r2_4 e5 l14) r1_6 hkl (zby hn x6) h h1 h2).mono (by rintro e w' ⟨v,rfl,e1,hv⟩; exact ⟨v,rfl,hv,e1⟩)) fun vv18 W7 hh18=>?_
 obtain ⟨hv18,e7⟩:=hh18
 have x7:=zbv x6 e7
 obtain ⟨gp1,gp2,rfl,lp1,lp2,rp1,rp2⟩:=hv18
 refine sgN hK17 <| wp_block ?_
 have r5_4:=(Qaa r5_3 e4)
 have r5_7:=(Qaa (rpn p6 r5_4 e5 l14) e7)
 have r14_7:=(Qaa r14_6 e7)
 have r13_6:=(rpn p6 r13_4 e5 l14)
 have r13_7:=(Qaa r13_6 e7)
 have nb712:g5≠g14:=(Qad r5_4 l14)
 have nb7O:g5≠g13:=(Qad r5_3 l13)
 have nb127:g14≠g5:=(Qap r5_4 l14)
 have nb12O:g14≠g13:=(Qap r13_4 l14)
 have nbO7:g13≠g5:=(Qap r5_3 l13)
 have nbO12:g13≠g14:=(Qad r13_4 l14)
 have hgs:∀ c∈([g14,g13]:List Nat),w.heap.size≤c:=(fun c hc=>by simp only [zaI,zaJ,or_false] at hc; rcases hc with rfl | rfl; exact b14; exact b13)
 have hgp:∀ c∈([g14,g13]:List Nat),c<W6.heap.size:=(fun c hc=>by simp only [zaI,zaJ,or_false] at hc; rcases hc with rfl | rfl; exact Qa7 r14_6; exact Qa7 r13_6)
 refine Qja (gf:=131) (lb:=#[.pointer (some ⟨gp1,0,none⟩),.pointer (some ⟨gp2,0,none⟩)]) (enc:=fun x:Nat=>.int .i64 (number+((x:Nat):Int))) (enc2:=fun x:Nat=>.agg (ints .u8 (Qb9 (Qbj key nonce) (number+((x:Nat):Int))))) kj (enters_of Tryz.func131 kj rfl) (Qik 2 [g14,g13] gp1 gp2 (Qbj key nonce) number r tq W7 hr h1 h2 (Qe4 _ _) (Qaa r1_6 e7) rp1 rp2 (fun hm=>by have:=hgp _ hm; omega) (fun hm=>by have:=hgp _ hm; omega) (fun hm=>by have h1:=hgs _ hm; have h2:=Qa7 hq; omega)) (fun h k=>Qcn.trans h k) Qcn.book (Below.refl _ _)
   (fun pre W=>((W.heap[g5]? = some (.cells (#[.slice a_t text.length c_t]) 24))∧(W.heap[g14]? = some (.cells (#[.slice (some ⟨g13,0,none⟩) (64*pre.length) text.length]) 24))∧(W.heap[g13]? = some (.cells (ints .u8 (Qcm (mxv text (Qbj key nonce) number (pg pre) text.length) text.length (64*pre.length))) 5))∧64*pre.length≤text.length∧W7.heap.size≤W.heap.size)∧Ext w W)
   (fun c pre W=>(c=.exit 0∧text.length≤64*pre.length∧(W.heap[g14]? = some (.cells (#[.slice (some ⟨g13,0,none⟩) (text.length) text.length]) 24))∧(W.heap[g13]? = some (.cells (ints .u8 (Qcm (mxv text (Qbj key nonce) number (pg pre) text.length) text.length (text.length))) 5)))∧Ext w W) (OwnFrom.and (Own.from (fun s A B row hs hg hr=>⟨Qbx hs.1 hg hr,Qbx hs.2.1 hg hr,Qbx hs.2.2.1 hg hr,hs.2.2.2.1,qT hs.2.2.2.2 hg.size⟩) _) (ownFrom_below (qR _) x7.size)) (fun c=>OwnFrom.and (Own.from (fun s A B row hs hg hr=>⟨hs.1,hs.2.1,Qbx hs.2.2.1 hg hr,Qbx hs.2.2.2 hg hr⟩) _) (ownFrom_below (qR _) x7.size)) ⟨⟨r5_7,r14_7,QaG r13_7 (QcS _ _),zal _,qR _⟩,x7⟩ (fun e=>Qcn.ext e) (fun pre A B h e=>⟨⟨Qaa h.1.1 e,Qaa h.1.2.1 e,Qaa h.1.2.2.1 e,h.1.2.2.2.1,qT h.1.2.2.2.2 e.size⟩,zbs h.2 e⟩) (fun pre W h=>h.1.2.2.2.2) (fun x g=>[(14,.pointer (some ⟨g,0,none⟩)),(42,.agg (ints .u8 (Qb9 (Qbj key nonce) (number+((x:Nat):Int))))),(41,.int .i64 (number+((x:Nat):Int)))]) (fun x=>ints .u8 (Qb9 (Qbj key nonce) (number+((x:Nat):Int)))) 112 (fun l x W K hK=>?_) (fun l pre x gP Wr hgP hI rP hp=>?_) (fun D ys W lD hS hI rD=>?_) (fun D c pre W lD hSp hIx rD=>?_)
 ·skip
  refine Qb7 <| Qka (ints .u8 (zae 64 0)) 112 14 rfl (Qbe l 1 _) rfl kj kj fun g301 W1 l301 e1 r301_1=>?_
  have x1:=zbv (zbr W) e1
  refine QfZ g301 _ (ints .u8 (Qb9 (Qbj key nonce) (number+((x:Nat):Int)))) 112 r301_1 rfl (Qbe l 1 _) rfl kj (Qag 112 _ _ g301 112 _ _ r301_1 rfl kj kj (isz (n:=64) kj (izT (Qcl _ _))) (eqsz (n:=64) (izT (qZ (n:=64))) (izT (Qcl _ _))) (ints_one _ _)) fun W2 p2 r301_2=>?_
  have x2:=zbu p2 x1 (qT (zbr W).size l301)
  refine Qd2 ?_
  exact hK _ _ l301 (zbu p2 (zbs (zbr W) e1) l301) r301_2
 ·skip
  obtain ⟨⟨q7,q12,qO,hml,hsz⟩,xx⟩:=hI
  replace qO:=QaG qO (Qpk text (Qbj key nonce) number pre x text.length)
  have hl1:(pre++[x]).length=pre.length+1:=by simp
  have n147:gP≠g5:=by have h1:=Qa7 r5_7; omega
  have n1412:gP≠g14:=by have h1:=Qa7 r14_7; omega
  have n14O:gP≠g13:=by have h1:=Qa7 r13_7; omega
  refine wpIn_block <| wpIn_seq_k fun K505 hK505=>Qb7 <| QbZ (.agg (ints .u8 (Qb9 (Qbj key nonce) (number+((x:Nat):Int))))) 43 rfl (Qbe l 1 _) rfl kj (Qae 112 _ gP 112 _ _ rP rfl kj kj (isz (n:=64) kj (izT (Qcl _ _)))) <| QbZ (.int .i64 0) 44 rfl (Qbe l 1 _) rfl kj kj <| Qd2 <| hK505 _ _ <| wpIn_block <| Qjr (fun (s1:Nat)=>[(7,.pointer (some ⟨g5,0,none⟩)),(12,.pointer (some ⟨g14,0,none⟩)),(43,.agg (ints .u8 (Qb9 (Qbj key nonce) (number+((x:Nat):Int))))),(44,.int .i64 ((s1:Nat):Int))]) (fun (s1:Nat) W=>(s1≤64)∧(64*pre.length+s1≤text.length)∧(W.heap[g14]? = some (.cells (#[.slice (some ⟨g13,0,none⟩) (64*pre.length+s1) text.length]) 24))∧(W.heap[g13]? = some (.cells (ints .u8 (Qcm (mxv text (Qbj key nonce) number (pg (pre++[x])) text.length) text.length (64*pre.length+s1))) 5))∧(Qa0 [g14,g13] Wr W)∧(Ext w W)) (fun (s1:Nat)=>64-s1) 0 ⟨rfl,rfl,rfl,rfl,trivial⟩ ⟨(zal _),(by omega),q12,qO,(zbz [g14,g13] Wr),xx⟩ fun s1 X1 V1 hI1=>?_
  obtain ⟨j,hs1⟩:∃ z,z=s1:=⟨_,rfl⟩
  subst hs1
  obtain ⟨hj,hmj,q503_1,q501_1,kk1,xx1⟩:=hI1
  replace hj:j≤64:=hj
  replace hmj:64*pre.length+j≤text.length:=hmj
  replace q503_1:V1.heap[g14]? = some (.cells (#[.slice (some ⟨g13,0,none⟩) (64*pre.length+j) text.length]) 24):=q503_1
  replace q501_1:V1.heap[g13]? = some (.cells (ints .u8 (Qcm (mxv text (Qbj key nonce) number (pg (pre++[x])) text.length) text.length (64*pre.length+j))) 5):=q501_1
  replace kk1:Qa0 [g14,g13] Wr V1:=kk1
  replace xx1:Ext w V1:=xx1
  have q1:=kk1
  refine wpIn_seq_k fun K506 hK506=>Qb7 <| QbZ (.bool (decide (((j:Nat):Int)<64))) 45 rfl (Qbe l 1 _) rfl kj kj <| Qd2 <| hK506 _ _ <| wpIn_seq_k fun K507 hK507=>Qeg (t:=decide (((j:Nat):Int)<64)) kj (fun c508=>?_) (fun c508=>?_)
  ·skip
   have hlt45:j<64:=by have:=of_decide_eq_true c508; omega
   refine wpIn_skip <| hK507 _ _ <| wpIn_seq_k fun K509 hK509=>wpIn_block <| wpIn_seq_k fun K510 hK510=>Qb7 <| QbZ (.int .u8 (nth (Qb9 (Qbj key nonce) (number+((x:Nat):Int))) j)) 46 rfl (Qbe l 1 _) rfl kj (QaB 112 _ _ .i64 .u8 (Qb9 (Qbj key nonce) (number+((x:Nat):Int))) j 64 5 (nth (Qb9 (Qbj key nonce) (number+((x:Nat):Int))) j) rfl kj kj kj kj kj (Qcl _ _) (by omega) rfl) <| QbZ (.int .u8 (nth (Qb9 (Qbj key nonce) (number+((x:Nat):Int))) j)) 16 rfl (Qbe l 1 _) rfl kj kj <| Qd2 <| hK510 _ _ ?_
   refine wpIn_seq_k fun K511 hK511=>wpIn_seq_k fun K512 hK512=>Qb7 <| QbZ (.slice (some ⟨g13,0,none⟩) (64*pre.length+j) text.length) 47 rfl (Qbe l 1 _) rfl kj (Qaj 24 _ g14 0 24 _ (.slice (some ⟨g13,0,none⟩) (64*pre.length+j) text.length) _ q503_1 rfl kj kj kj) <| QbZ (.int .i64 ((64*pre.length+j:Nat):Int)) 48 rfl (Qbe l 1 _) rfl kj kj ?_
   have r502_1:=(zb0 q1 q7 (Qbd nb712 (Qbd nb7O Qbr)))
   refine QbZ (.slice a_t text.length c_t) 49 rfl (Qbe l 1 _) rfl kj (Qaj 24 _ g5 0 24 _ (.slice a_t text.length c_t) _ r502_1 rfl kj kj kj) <| QbZ (.int .i64 ((text.length:Nat):Int)) 50 rfl (Qbe l 1 _) rfl kj kj <| QbZ (.bool ((((64*pre.length+j:Nat):Int)==((text.length:Nat):Int)))) 51 rfl (Qbe l 1 _) rfl kj kj <| Qd2 <| hK512 _ _ <| Qeg (t:=(((64*pre.length+j:Nat):Int)==((text.length:Nat):Int))) kj (fun c513=>?_) (fun c513=>?_)
   ·skip
    have hmn:64*pre.length+j=text.length:=by have:=eq_of_beq c513; omega
    refine wpIn_exit ?_
    repeat (first | with_reducible refine goX1 ?_ | with_reducible refine goXj (by decide) ?_)
    have hq12:=q503_1
    have hqO:=q501_1
    rw [hmn] at hq12 hqO
    exact ⟨(QfG q1 (fun c hc=>by simp only [zaI,zaJ,or_false] at hc; rcases hc with rfl | rfl; exact ⟨_,_,q12⟩; exact ⟨_,_,qO⟩)),⟨rfl,by rw [hl1]; omega,hq12,hqO⟩,xx1⟩
   ·skip
    have hmn:64*pre.length+j<text.length:=by
     rcases zbl (64*pre.length+j) text.length with hh | hh
     ·exact hh
     ·exfalso; have e:(((64*pre.length+j:Nat):Int)==((text.length:Nat):Int))=true:=by rw [beq_iff_eq]; omega
      rw [e] at c513; cases c513
    obtain ⟨gt,ot,hat,-,hlt_,hct⟩:=QfD (zby ht xx1) (by omega)
    refine wpIn_skip <| hK511 _ _ <| QkU 9 [⟨none,[(12,none)]⟩,⟨none,[(7,none)]⟩,⟨none,[(12,none)]⟩,⟨none,[(54,some 2)]⟩,⟨none,[(53,some 1),(55,some 3)]⟩,⟨none,[(56,some 4)]⟩,⟨none,[(16,none)]⟩,⟨none,[(57,some 5),(58,some 6)]⟩,⟨none,[(59,some 7)]⟩] (Qbe l 1 _) rfl kj kj fun F hF=>QcF (Qar _) (.slice (some ⟨g13,0,none⟩) (64*pre.length+j) text.length) kj kj (fun W hR=>(Qaj 24 _ g14 0 24 _ (.slice (some ⟨g13,0,none⟩) (64*pre.length+j) text.length) _ (Qaa (Qaa q503_1 (Qah _)) hR) rfl kj kj kj)) <| QcF (Qar _) (.slice a_t text.length c_t) kj kj (fun W hR=>(Qaj 24 _ g5 0 24 _ (.slice a_t text.length c_t) _ (Qaa (Qaa r502_1 (Qah _)) hR) rfl kj kj kj)) <| QcF (Qar _) (.slice (some ⟨g13,0,none⟩) (64*pre.length+j) text.length) kj kj (fun W hR=>(Qaj 24 _ g14 0 24 _ (.slice (some ⟨g13,0,none⟩) (64*pre.length+j) text.length) _ (Qaa (Qaa q503_1 (Qah _)) hR) rfl kj kj kj)) <| Qa6 (Qar _) (.int .i64 ((64*pre.length+j:Nat):Int)) kj kj (fun _=>kj) <| Qa6 (Qar _) (.pointer (some ⟨gt,ot+(64*pre.length+j),none⟩)) kj kj (fun W=>(Qe6 24 _ _ .i64 (64*pre.length+j) gt ot text.length c_t 5 a_t _ hat rfl rfl kj kj kj kj (zan (show 64*pre.length+j<text.length by omega) (rfl:text.length=text.length).symm))) <| QcF (Qar _) (.int .u8 (nth (text) ((64*pre.length+j)))) kj kj (fun W hR=>(Qb5 5 _ _ (.int .u8 (nth (text) ((64*pre.length+j)))) ((Below.cell (zbs (Qah _) hR) hlt_).trans (hct (64*pre.length+j) (zan (show 64*pre.length+j<text.length by omega) (rfl:text.length=text.length).symm))) rfl kj kj)) <| Qa6 (Qar _) (.int .u8 (nth (Qb9 (Qbj key nonce) (number+((x:Nat):Int))) j)) kj kj (fun _=>kj) ?_
    refine Qa6 (Qar _) (.int .u8 (bits .xor .u8 ((nth (text) ((64*pre.length+j)))) ((nth (Qb9 (Qbj key nonce) (number+((x:Nat):Int))) j)))) kj kj (fun _=>kj) <| QeL (Qar _) (ints .u8 ([(bits .xor .u8 ((nth (text) ((64*pre.length+j)))) ((nth (Qb9 (Qbj key nonce) (number+((x:Nat):Int))) j)))])) 5 1 (NewS.stable _ _ _ _) kj kj (fun _=>kj) <| Qdr (hF _ fun W2 e2=>?_)
    simp only [zaj,zak,zaf,zag,zah,zai,finE,up]
    intro vv514 hv514
    clear hF
    have x2:=zbv xx1 e2
    obtain ⟨g514,rfl,l514,r514_2⟩:=hv514
    have b514:=qT xx1.size l514
    have r501_2:=(Qaa q501_1 e2)
    refine Qpy (.slice (some ⟨g13,0,none⟩) (64*pre.length+j+1) text.length) 61 rfl (Qbe l 1 _) rfl kj r501_2 (Qib (k:=.u8) (b:=1) (.tmp 52) (.tmp 60) 24 rfl kj kj kj kj r501_2 (Qd4 _ _ _ (QeS _ _ _ _ _) (by omega)) (by omega) r514_2) fun W3 p3 r501_3=>?_
    have x3:=zbu p3 x2 b13
    have r501_3_515:W3.heap[g13]? = some (.cells (ints .u8 (Qcm (mxv text (Qbj key nonce) number (pg (pre++[x])) text.length) text.length (64*pre.length+(j+1)))) 5):=QaG r501_3 (by rw [←Qqq text (Qbj key nonce) number pre x text.length j hlt45 hmn]; exact QcT _ text.length (64*pre.length+j) (QeS _ _ _ _ _) hmn)
    have r503_3:=(zbt p3 (Qaa q503_1 e2) nb12O)
    refine QfZ g14 _ (#[.slice (some ⟨g13,0,none⟩) (64*pre.length+j+1) text.length]) 24 r503_3 rfl (Qbe l 1 _) rfl kj (QbU 24 _ _ g14 0 24 _ (.slice (some ⟨g13,0,none⟩) (64*pre.length+j+1) text.length) r503_3 rfl kj kj kj kj kj rfl) fun W4 p4 r503_4=>?_
    have x4:=zbu p4 x3 b14
    refine Qd2 <| hK509 _ _ <| Qb7 <| QbZ (.int .i64 ((j+1:Nat):Int)) 62 rfl (Qbe l 1 _) rfl kj (Qam (u:=.int .i64 (zao.wrap (((j:Nat):Int)+1))) kj (congrArg (zam .i64) (i64n _ _ (by omega) (by omega)))) <| QbZ (.int .i64 ((j+1:Nat):Int)) 44 rfl (Qbe l 1 _) rfl kj kj <| Qd2 ?_
    repeat (first | with_reducible refine goX1 ?_ | with_reducible refine goX2 ?_ | with_reducible refine goX3 ?_)
    exact QaL (j+1) ⟨kj,kj,kj,kj,trivial⟩ ⟨(by omega),(by omega),r503_4,(zbt p4 r501_3_515 nbO12),(zb2 (zb2 (zb1 q1 e2) p3 (.inl (by simp))) p4 (.inl (by simp))),x4⟩ (by show 64-(j+1)<64-j; omega)
  ·skip
   have heq45:j=64:=by have:=of_decide_eq_false c508; omega
   refine wpIn_exit ?_
   subst heq45
   repeat (first | with_reducible refine goX1 ?_ | with_reducible refine goX2 ?_ | with_reducible refine goX3 ?_)
   have r502_1:=(zb0 q1 q7 (Qbd nb712 (Qbd nb7O Qbr)))
   exact ⟨(QfG q1 (fun c hc=>by simp only [zaI,zaJ,or_false] at hc; rcases hc with rfl | rfl; exact ⟨_,_,q12⟩; exact ⟨_,_,qO⟩)),(Qcn.keeps q1),⟨r502_1,by rw [hl1,Nat.mul_add]; exact q503_1,by rw [hl1,Nat.mul_add]; exact q501_1,by rw [hl1]; omega,qT hsz (qT (qR _) (Qa0.size q1))⟩,xx1⟩
 ·obtain ⟨⟨-,q12,qO,hml,-⟩,xx⟩:=hI
  subst hS
  rw [zaZ] at q12 qO hml
  have hge:text.length≤64*r:=by omega
  have hee:64*r=text.length:=by omega
  rw [hee] at q12 qO
  have qO2:=QaG (QaG qO (QcE _ _ (QeS _ _ _ _ _))) (QlS text (Qbj key nonce) number r hge)
  have bD:w.heap.size≤D:=qT x7.size lD
  refine hK16 _ _ <| sgC fun K20 hK20=>Qac (.slice (some ⟨g13,0,none⟩) text.length text.length) 63 rfl kj (Qaj 24 _ g14 0 24 _ (.slice (some ⟨g13,0,none⟩) text.length text.length) _ q12 rfl kj kj kj) <| sg 2 kj <| sgN hK20 <| wp_ret ?_
  repeat (first | with_reducible refine goR1 ?_ | with_reducible refine goR2 ?_)
  exact (show bodyPostM _ _ _ _ _ .ret _ _ from QoN (.slice (some ⟨g13,0,none⟩) text.length text.length) (.nilIface) rfl rD (Qa4 kj) (Qa4 kj) ⟨_,rfl,QfW xx bD rD _,_,rfl,QdD (Qcv _ _ _) b13 (QfV qO2 rD _) (by simp only [maxLen]; omega)⟩)
 ·obtain ⟨⟨rfl,hge,q12,qO⟩,xx⟩:=hIx
  obtain ⟨kR,rfl,-⟩:=hSp
  rw [zaZ] at hge
  have qO2:=QaG (QaG qO (QcE _ _ (QeS _ _ _ _ _))) (QlS text (Qbj key nonce) number kR hge)
  have bD:w.heap.size≤D:=qT x7.size lD
  refine wp_exit <| hK16 _ _ <| sgC fun K22 hK22=>Qac (.slice (some ⟨g13,0,none⟩) text.length text.length) 63 rfl kj (Qaj 24 _ g14 0 24 _ (.slice (some ⟨g13,0,none⟩) text.length text.length) _ q12 rfl kj kj kj) <| sg 2 kj <| sgN hK22 <| wp_ret ?_
  repeat (first | with_reducible refine goR1 ?_ | with_reducible refine goR2 ?_)
  exact (show bodyPostM _ _ _ _ _ .ret _ _ from QoN (.slice (some ⟨g13,0,none⟩) text.length text.length) (.nilIface) rfl rD (Qa4 kj) (Qa4 kj) ⟨_,rfl,QfW xx bD rD _,_,rfl,QdD (Qcv _ _ _) b13 (QfV qO2 rD _) (by simp only [maxLen]; omega)⟩)
end Cha
end
section
namespace Sha
open Go Go.RowKit
open Rely Auto Own
section
variable {P : Program} {ρ : Operand → Value} {o : Oper} {w : World}
theorem QgH (t : TypeId) (x z:Operand) (h:Nat) (e:TypeId) (ho:o.op=.slice t x none (some z) none) {a:Option Addr} {len cap:Nat} (hx:ρ x=.slice a len cap)
    (hu:P.underlying t=some (.slice e)) (hs:(P.info? e).map (·.size)=some 1) (kz:IntKind) (hz:ρ z=.int kz (h:Int)) (h2:h≤cap) :
    (execOp ρ o).run P w=.ok (.value (.slice a h cap)) w:=by
  cases hq:P.info? e with
  | none=>simp [hq] at hs
  | some i =>
    have hs':i.size=1:=by simpa [hq] using hs
    unfold execOp
    have hadd:∀ a:Option Addr,Option.map (fun x=>x.add 0) a=a:=fun a=>by
      cases a with
      | none=>rfl
      | some a=>obtain ⟨b,o,s⟩:=a; cases s <;> simp [Addr.add]
    simp [ho,hx,hz,Instr.sliceAt,Instr.slice,Instr.sliceBounds,run_sliceBound,run_underlying hu,sizeOf,typeInfo,hq,hs',h2,hadd]
end
section
variable {ds : List Deferred} {P : Program} {ops : Array Oper} {Q : Exit → Act → World → Prop} {rest : List Oper} {o : Oper} {N : Nat} {L : Env} {w : World}
end
def Qr2 (T : TypeId) (base:Nat) (t:List Int) (v:Value) (W:World):Prop:=∃ g c,v=.slice (some ⟨g,0,none⟩) t.length c∧OwnN .u8 T base (t++[165,90]) (.slice (some ⟨g,0,none⟩) (t++[165,90]).length c) W
theorem Qra (x y:Value) (xs ys:List Int) (w:World) (hx:QeW w x xs) (hy:QeW w y ys):Calls Tryz.prog 17 #[x,y] w (Ret w (.bool (decide (xs=ys)))):=by
  have hse:((QeN xs).toList==(QeN ys).toList)=decide (xs=ys):=by
    obtain ⟨_,_,_,_,bx,_⟩:=hx
    obtain ⟨_,_,_,_,by',_⟩:=hy
    exact Qls bx by'
  refine enter 10 [(0,x),(1,y)] Tryz.func17 rfl rfl kj rfl <| sgB kj <| sgC fun K2 hK2=>sg 1 kj <| Qac (.string (QeN xs)) 6 rfl kj (Qgk _ x rfl kj xs hx) <| sg 1 kj <| Qac (.string (QeN ys)) 8 rfl kj (Qgk _ y rfl kj ys hy) <| Qac (.bool (decide (xs=ys))) 9 rfl kj (Qam (u:=.bool ((QeN xs).toList==(QeN ys).toList)) kj (congrArg zbd hse)) <| sg 1 kj <| sgN hK2 ?_
  refine wp_ret ?_
  repeat (first | with_reducible refine goR1 ?_ | with_reducible refine goR2 ?_)
  exact (show bodyPost _ _ _ .ret _ _ from ret1 (.bool (decide (xs=ys))) rfl (Qa4 kj) ⟨rfl,(zbr w)⟩)
theorem QpZ (x y:Value) (xs ys:List Int) (w:World) (e:xs=ys) (hx:QeW w x xs) (hy:QeW w y ys):Calls Tryz.prog 17 #[x,y] w (Ret w (.bool true)):=by
  have h:=Qra x y xs ys w hx hy
  rw [decide_eq_true e] at h
  exact h
def restA (a : Option Addr) (c l:Nat):Option Addr:=if c=l then a else a.map fun z=>z.add l
theorem Qft {P : Program} {ρ:Operand→Value} {o:Oper} {w:World} (t:TypeId) (x z:Operand) (l:Nat) (e:TypeId) (ho:o.op=.slice t x (some z) none none) {a:Option Addr} {len cap:Nat} (hx:ρ x=.slice a len cap)
    (hu:P.underlying t=some (.slice e)) (hs:(P.info? e).map (·.size)=some 1) (kz:IntKind) (hz:ρ z=.int kz (l:Int)) (h1:l≤len) (h2:len≤cap) :
    (execOp ρ o).run P w=.ok (.value (.slice (restA a cap l) (len-l) (cap-l))) w:=by
  cases hq:P.info? e with
  | none=>simp [hq] at hs
  | some i =>
    have hs':i.size=1:=by simpa [hq] using hs
    unfold execOp restA
    have hadd:∀ a:Option Addr,Option.map (fun x=>x.add 0) a=a:=fun a=>by
      cases a with
      | none=>rfl
      | some a=>obtain ⟨b,o,s⟩:=a; cases s <;> simp [Addr.add]
    by_cases hc:cap=l
    · simp [ho,hx,hz,Instr.sliceAt,Instr.slice,Instr.sliceBounds,run_sliceBound,run_underlying hu,sizeOf,typeInfo,hq,hs',h1,h2,hadd,hc]
    · simp [ho,hx,hz,Instr.sliceAt,Instr.slice,Instr.sliceBounds,run_sliceBound,run_underlying hu,sizeOf,typeInfo,hq,hs',h1,h2,hadd,hc]
theorem Qhr {k : IntKind} {B n c:Nat} {ys:List Int} {a:Option Addr} {W:World} (h:RdK k B ys (.slice a n c) W) (l:Nat) (hl:l≤ys.length):RdK k B (ys.drop l) (.slice (restA a c l) (n-l) (c-l)) W:=by
  obtain ⟨a',cap,e,h2,h3,h4,h5⟩:=h
  simp only [za9.injEq] at e
  obtain ⟨rfl,rfl,rfl⟩:=e
  refine ⟨_,_,by rw [zar],by rw [zar]; omega,by omega,?_,?_⟩
  · intro e
    unfold restA at e
    split at e
    · omega
    · have:=h4 (by cases a <;> simp_all); omega
  · rcases h5 with h5 | ⟨g,o,rfl,q2,q3,q4⟩
    · left; rw [h5]; simp
    · rcases zbl l ys.length with hlt | hge
      · right
        refine ⟨g,o+l,?_,q2,q3,fun i hi=>?_⟩
        · unfold restA
          rw [if_neg (by omega),zbk]
          simp [Addr.add]
        · rw [zar] at hi
          rw [Nat.add_assoc,q4 (l+i) (by omega)]
          simp [nth]
      · left; exact zaD hge
theorem QjG {k : IntKind} {B n c:Nat} {ys:List Int} {a:Option Addr} {W:World} (h:RdK k B ys (.slice a n c) W) (l:Nat) (hl:l≤ys.length):RdK k B (ys.take l) (.slice a l c) W:=by
  obtain ⟨a',cap,e,h2,h3,h4,h5⟩:=h
  simp only [za9.injEq] at e
  obtain ⟨rfl,rfl,rfl⟩:=e
  have hlen:(ys.take l).length=l:=by rw [zat]; omega
  refine ⟨_,_,by rw [hlen],by omega,h3,h4,?_⟩
  rcases h5 with rfl | ⟨g,off,rfl,q2,q3,q4⟩
  · exact .inl (by simp)
  · refine .inr ⟨g,off,rfl,q2,q3,fun i hi=>?_⟩
    rw [hlen] at hi
    rw [q4 i (by omega)]
    simp [nth,zbf,hi]
end Sha
end
section
namespace Cha
open Go Go.RowKit
open Rely Auto Own Sha
open Sha
theorem QmC (x y:Int):bits .xor .u8 x y=(((zbe 8 x)^^^(zbe 8 y)).toNat:Int):=by
  have h:bits .xor .u8 x y=zaE.wrap (((zbe 8 x)^^^(zbe 8 y)).toNat:Int):=rfl
  have h3:∀ z:Int,zaE.wrap z=z%256:=fun _=>rfl
  rw [h,h3]
  have:=((zbe 8 x)^^^(zbe 8 y)).isLt
  omega
theorem Qf9 (a b:Int) (h0:0≤a) (h1:a≤255):bits .xor .u8 (bits .xor .u8 a b) b=a:=by
  rw [QmC,QmC]
  have e:zbe 8 (((zbe 8 a)^^^(zbe 8 b)).toNat:Int)=(zbe 8 a)^^^(zbe 8 b):=by
    apply BitVec.eq_of_toNat_eq
    rw [zbo]
    have:=((zbe 8 a)^^^(zbe 8 b)).isLt
    omega
  rw [e,BitVec.xor_assoc,BitVec.xor_self,BitVec.xor_zero,zbo]
  omega
theorem QgQ (ws : List Wd) (num:Int) (text:List Int):Qaf (mixV ws num text):=fun n hn=>by
  unfold mixV mxv at hn
  obtain ⟨i,-,rfl⟩:=zaQ.1 hn
  rw [QmC]
  have:=((zbe 8 (nth text i))^^^(zbe 8 (nth (Qb9 ws (num+((id (i/64):Nat):Int))) (i%64)))).isLt
  omega
theorem QjX (ws : List Wd) (num:Int) (text:List Int) (i:Nat) (h:i<text.length):nth (mixV ws num text) i=bits .xor .u8 (nth text i) (nth (Qb9 ws (num+((i/64:Nat):Int))) (i%64)):=QlR text ws num id text.length i h
theorem Qph {xs ys:List Int} (hl:xs.length=ys.length) (h:∀ i,i<xs.length→nth xs i=nth ys i):xs=ys:=by
  apply List.ext_getElem? 
  intro i
  rcases zbl i xs.length with hi | hi
  · have h1:=h i hi
    unfold nth at h1
    rw [zaR,zaR,zaM hi,zaM (by omega)] at h1
    rw [zaM hi,zaM (by omega)]
    exact congrArg some h1
  · rw [zbm hi,zbm (by omega)]
theorem Qpp (ws : List Wd) (num:Int) (text:List Int) (hb:Qaf text):mixV ws num (mixV ws num text)=text:=by
  refine Qph (by rw [Qcv,Qcv]) fun i hi=>?_
  rw [Qcv,Qcv] at hi
  rw [QjX _ _ _ _ (by rw [Qcv]; exact hi),QjX _ _ _ _ hi]
  have h:=Qbt hb i
  exact Qf9 _ _ (by omega) (by omega)
theorem Qh2 (xs : List Int) (k i:Nat) (h:i<k):nth (xs.take k) i=nth xs i:=by
  unfold nth; rw [zaR,zaR,zbf,if_pos h]
theorem QjS (xs : List Int) (k i:Nat):nth (xs.drop k) i=nth xs (k+i):=by
  unfold nth; rw [zaR,zaR,zbg]
def MixR (base : Nat) (xs:List Int):Value→World→Prop:=fun v W=>∃ u,v=.tuple #[u,.nilIface]∧OwnN .u8 5 base xs u W
theorem Qef (base : Nat) (xs:List Int):Qcq Ext (MixR base xs):=fun _ _ _ hR ⟨u,e,h⟩=>⟨u,e,h.ext hR⟩
theorem MixG (n0 : Nat) (key nonce text:List Int) (v v2:Value) (B B2:Nat) (number:Int) (th tq:TypeId) (w:World) (hh:w.heap[2]? = some (.cells (ints .u32 qH) th)) (hq:w.heap[3]? = some (.cells (ints .i64 qQ) tq)) (hkl:key.length=32) (hn:RdK .u8 B nonce v w) (ht:RdK .u8 B2 text v2 w) (h:nonce.length=12) (r:Nat) (hr:number+(r:Int)=4294967296) (h1:0≤number) (h2:number≤4294967295) (hfit:text.length≤64*r) (htl:text.length≤2000000) (hn0:n0≤w.heap.size) :
    Calls Tryz.prog 102 #[.agg (ints .u8 key),v,.int .i64 number,v2] w (QcL w (MixR n0 (mixV (Qbj key nonce) number text))) :=
  (Qrz key nonce text v v2 B B2 number th tq w hh hq hkl hn ht h r hr h1 h2 hfit htl).mono fun e W' hg=>by
    obtain ⟨v',e1,e2,u,e3,e4⟩:=hg
    exact ⟨v',e1,e2,u,e3,e4.base hn0⟩
end Cha
end
section
namespace Ae
open Go Go.RowKit
open Rely Auto Own Sha Cha
def lev : List Int→Int
  | []=>0
  | a::t=>a+256*lev t
def p256 (n : Nat):Int:=256^n
theorem Qop : p256 0=1:=rfl
theorem Qfe (n : Nat):p256 (n+1)=256*p256 n:=by unfold p256; rw [Int.pow_succ,Int.mul_comm]
theorem Qe8 (m n:Nat):p256 (m+n)=p256 m*p256 n:=by unfold p256; rw [Int.pow_add]
theorem Qed (n : Nat):0<p256 n:=Int.pow_pos (by decide)
theorem Qh8 : ∀ (xs:List Int) (x:Int),lev (xs++[x])=lev xs+x*p256 xs.length
  | [],x=>by simp [lev,Qop]
  | a::t,x=>by
    rw [zak,lev,Qh8 t x,lev,zbb,Qfe]
    grind
theorem QdO : ∀ {xs:List Int},Qaf xs→0≤lev xs
  | [],_=>by simp [lev]
  | a::t,h=>by
    have h1:=h a (zbp ..)
    have h2:=QdO (xs:=t) fun x hx=>h x (zbq _ hx)
    rw [lev]; omega
theorem Qi2 : ∀ {xs:List Int},Qaf xs→lev xs<p256 xs.length
  | [],_=>by simp [lev,Qop]
  | a::t,h=>by
    have h1:=h a (zbp ..)
    have h2:=Qi2 (xs:=t) fun x hx=>h x (zbq _ hx)
    rw [lev,zbb,Qfe]; omega
theorem Qff (xs : List Int) (i:Nat) (h:i<xs.length):lev (xs.take (i+1))=lev (xs.take i)+nth xs i*p256 i:=by
  have e:xs.take (i+1)=xs.take i++[nth xs i]:=by
    rw [zaL,zaM h]
    simp [nth,h]
  rw [e,Qh8,zat,Nat.min_eq_left (by omega)]
theorem bytes_app {a b:List Int} (ha:Qaf a) (hb:Qaf b):Qaf (a++b):=fun x hx=>by
  rcases zau.1 hx with h | h
  · exact ha x h
  · exact hb x h
theorem Qbq {a : List Int} (ha:Qaf a) (n:Nat):Qaf (a.take n):=fun x hx=>ha x (zav hx)
theorem Qcb {a : List Int} (ha:Qaf a) (n:Nat):Qaf (a.drop n):=fun x hx=>ha x (zaw hx)
theorem Qcp {a : List Int} (ha:Qaf a) (n:Nat) {x:Int} (h0:0≤x) (h1:x≤255):Qaf (a.set n x):=fun y hy=>by
  rcases List.mem_or_eq_of_mem_set hy with h | h
  · exact ha y h
  · subst h; exact ⟨h0,h1⟩
def PP : Int:=1361129467683753853853498429727072845819
def Qeq (r : Int) (t:List Int):Nat→Int
  | 0=>0
  | n+1=>(Qeq r t n+lev (((t.drop (16*n)).take 16)++[1]))*r%PP
def QeR (r : Int) (t:List Int):Int:=Qeq r t ((t.length+15)/16)
def by16 (v : Int):List Int:=(zaY 16).map fun i=>v/p256 i%256
def tagV (r s:Int) (t:List Int):List Int:=by16 (QeR r t+s)
theorem Qbh (v : Int):(by16 v).length=16:=by simp [by16]
theorem Qla (v : Int):Qaf (by16 v):=fun x hx=>by
  obtain ⟨i,-,rfl⟩:=zaQ.1 hx
  omega
theorem QnZ (v : Int) (i:Nat) (h:i<16):nth (by16 v) i=v/p256 i%256:=by
  unfold nth by16
  rw [zaR,zbi,zbj h]; rfl
end Ae
end
section
namespace Ae
open Go Go.RowKit
open Rely Auto Own Sha
open Sha Cha
theorem Qgj (b : List Int) (i:Nat) (h:i<b.length):b.take (i+1)=b.take i++[nth b i]:=by
  rw [zaL,zaM h]
  simp [nth,h]
theorem p16 : p256 16=340282366920938463463374607431768211456:=by decide +kernel
theorem QlA {k : IntKind} {T:TypeId} {g n l h:Nat} {xs:List Int} {W:World} (hn:xs.length=n) (r:W.heap[g]? = some (.cells (ints k xs) T)) (h1:l≤h) (h2:h≤n) (h3:n≤maxLen):RdK k W.heap.size ((xs.drop l).take (h-l)) (.slice (some ⟨g,l,none⟩) (h-l) (n-l)) W :=
  QdZ l (by rw [zat,zar]; omega) r (fun i hi=>by rw [Qh2 _ _ _ hi,QjS]; exact Qay k xs (l+i) (by omega)) (Qa7 r) (by omega) (by omega)
def QfK (b : List Int):List Int :=
  let b1:=b.set 3 (nth b 3%16)
  let b2:=b1.set 7 (nth b1 7%16)
  let b3:=b2.set 11 (nth b2 11%16)
  let b4:=b3.set 15 (nth b3 15%16)
  let b5:=b4.set 4 (nth b4 4/4*4)
  let b6:=b5.set 8 (nth b5 8/4*4)
  b6.set 12 (nth b6 12/4*4)
def rOf (key : List Int):Int:=lev (QfK ((key.drop 0).take (16-0)))
def sOf (key : List Int):Int:=lev ((key.drop 16).take (32-16))
theorem QgE {x c r q y:Int} (h:x%PP=q) (hy:y%PP=(x+c)*r%PP):y%PP=(q+c)*r%PP:=by
  rw [hy,←h,Int.mul_emod (x+c),Int.add_emod x c,Int.mul_emod (x%PP+c),Int.add_emod (x%PP) c,Int.emod_emod_of_dvd x (Int.dvd_refl PP)]
end Ae
end
end Go.Proofs.YtlcjklafldaemaaGreatDoor
