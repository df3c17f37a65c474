/- Texts of this claim, joined (O2). -/
import Derived.Test.YtioglfpngaddfaaDoorZO1
import Derived.Laws.Externs
import Derived.Shelf.Spec.BitsCarry
import Derived.Shelf.Bits.Mul64
import Derived.Laws.Bits64b

set_option linter.unusedVariables false
set_option linter.unusedSimpArgs false
set_option maxHeartbeats 4000000
open Int renaming eq_ofNat_of_zero_le → zaa, add_mul_ediv_left → zad, fdiv_eq_ediv_of_nonneg → zag, tdiv → zax, tmod → zay
open List renaming take_of_length_le → zab, length_drop → zac, length_take → zah, length_set → zai, nil_append → zan, cons_append → zao, take_succ_cons → zap, take_zero → zaq, drop_succ_cons → zar, drop_zero → zas, replicate → zat, range → zaz, mem_map → za0, getD_eq_getElem?_getD → za1, getElem?_map → za2, getElem?_range → za3, take_length → za6, eq_of_mem_replicate → zaA, length_append → zaB, length_map → zaI, drop_append_of_le_length → zaJ, take_append_of_le_length → zaK, mem_append → zaL, mem_of_mem_take → zaM, mem_of_mem_drop → zaN, map_append → zaP, map_take → zaQ, map_drop → zaR, append_assoc → zaS, map_toArray → zaT, map_cons → zaU, map_nil → zaV, drop_drop → zaW, drop_of_length_le → zaX, set_cons_zero → zaY, set_append_right → zaZ, mem_cons → zba, not_mem_nil → zbb, take_add_one → zbc, getElem?_eq_getElem → zbd, flatten_append → zbe, take_append_drop → zbf, append_nil → zbh, drop_replicate → zbj, flatten_cons → zbk, flatten_nil → zbl, length_range → zbm, range_succ → zbn
open Go.IntKind renaming u8 → zae, u64 → zaf, i64 → zaw, u32 → zaH
open Go.Code renaming wp → zaj, rounds → zak
open Nat renaming lt_of_lt_of_eq → zal, zero_le → zav, sub_le → zaD, sub_self → zaE, add_zero → zaG, ne_of_lt → zbg, eq_zero_or_pos → zbi
open Go.Value renaming int → zam, bool → zau, slice → zaC
open BitVec renaming ofInt → za4, toNat_ofInt → za5, eq_of_toNat_eq → zaF
open Go.Sem renaming run_bind → za7, run_pure → za9
open Go.Result renaming andThen_ok → za8
open Array renaming ext' → zaO
namespace Go.Proofs.YtioglfpngaddfaaDoor
open Rely.Ext renaming refl → zbo, trans → zbp
open Auto.Puts renaming row → zbq, ext → zbr
open Auto.Ext renaming tr → zbs
open Own.ExtB renaming refl → zbt, ext → zbu, row → zbv, up → zbw
open Auto.OwnN renaming stable → zbx, rd → zbz
open Auto.RdK renaming ext → zby, here → zb5
open Auto.ExtB renaming putsN → zb0
open Auto.Qaf renaming refl → zb1, row → zb2, step → zb3, puts → zb4
section
namespace Ae
open Go Go.RowKit
open Rely Auto Own Sha
open Sha Cha
def Qk3 (b : List Int):List Int :=
  let b1:=b.set 3 (nth b 3%16)
  let b2:=b1.set 7 (nth b1 7%16)
  let b3:=b2.set 11 (nth b2 11%16)
  let b4:=b3.set 15 (nth b3 15%16)
  let b5:=b4.set 4 (nth b4 4/4*4)
  let b6:=b5.set 8 (nth b5 8/4*4)
  let b7:=b6.set 12 (nth b6 12/4*4)
  b7
theorem Qh3 : ∀ key:List Int,key.length=32→((Qk3 key).drop 0).take (16-0)=Qe7 ((key.drop 0).take (16-0))
  | [a0,a1,a2,a3,a4,a5,a6,a7,a8,a9,a10,a11,a12,a13,a14,a15,a16,a17,a18,a19,a20,a21,a22,a23,a24,a25,a26,a27,a28,a29,a30,a31],_=>by kernel_rfl
theorem QlL (x : Int) (h:0≤x∧x<256):bits .and .u8 x 15=x%16:=by
  have:∀ n:Fin 256,bits .and .u8 ((n.1:Nat):Int) 15=((n.1:Nat):Int)%16:=by decide +kernel
  obtain ⟨X,rfl⟩:=zaa h.1
  exact this ⟨X,by omega⟩
theorem QkB (x : Int) (h:0≤x∧x<256):bits .and .u8 x 252=x/4*4:=by
  have:∀ n:Fin 256,bits .and .u8 ((n.1:Nat):Int) 252=((n.1:Nat):Int)/4*4:=by decide +kernel
  obtain ⟨X,rfl⟩:=zaa h.1
  exact this ⟨X,by omega⟩
theorem Qm2 {r : Int} {t:List Int} {q:Nat} (h:t.length=16*q+0):QdL r t=Qdu r t q:=by unfold QdL; rw [show (t.length+15)/16=q by omega]
theorem Qo2 {r S:Int} {t:List Int} {q m:Nat} (hu:t.length=16*q+m) (h0:0<m) (hm:m<16) (hS:S%PP=Qdu r t q):QeU r S (t.drop (16*q))%PP=QdL r t:=by
  unfold QdL
  rw [show (t.length+15)/16=q+1 by omega]
  unfold Qdu QeU
  rw [zab (by rw [zac]; omega)]
  exact Qfu hS (QhV _)
theorem geq4 (S : Int) (h0:0≤S) (h:S<2041694201525630780780247644590609268736):decide (nth (nw3 (S+5)) 2≥4)=decide (1361129467683753853853498429727072845824≤S+5):=by
  have e:nth (nw3 (S+5)) 2=(S+5)/340282366920938463463374607431768211456%18446744073709551616:=rfl
  rw [e]
  exact decide_eq_decide.2 (by omega)
theorem Qio (x : Int):by16 (x+1361129467683753853853498429727072845824)=by16 x:=by
  unfold by16
  refine List.map_congr_left fun i hi=>?_
  rw [List.mem_range] at hi
  have h1:(1361129467683753853853498429727072845824:Int)=p256 i*(256*(4*p256 (15-i))):=by
    have h2:p256 16=p256 i*p256 (16-i):=by rw [←Qd7]; congr 1; omega
    rw [show 16-i=(15-i)+1 by omega,QdU (15-i),p16] at h2
    grind
  rw [h1,zad _ _ (Int.ne_of_gt (Qdd i))]
  omega
theorem Ql6 (a : Int) (b c:Nat):a/p256 b/p256 c=a/p256 (b+c):=by
  rw [Qd7,Int.ediv_ediv,if_neg (by have:=Qdd b; omega)]; exact Int.sub_zero _
theorem out_byte (V : Int) (i:Nat) (hi:i<16):zae.wrap (nth (nw3 V) (i/8)/p256 (i%8))=nth (by16 V) i:=by
  have h3:∀ z:Int,zae.wrap z=z%256:=fun _=>rfl
  have hp8:p256 8=18446744073709551616:=by decide +kernel
  rw [h3,QlJ _ _ hi]
  have hB:(18446744073709551616:Int)=p256 (i%8)*(256*p256 (7-i%8)):=by
    have h2:p256 8=p256 (i%8)*p256 (8-i%8):=by rw [←Qd7]; congr 1; omega
    rw [show 8-i%8=(7-i%8)+1 by omega,QdU (7-i%8),hp8] at h2
    exact h2
  have key:∀ x:Int,x%18446744073709551616/p256 (i%8)%256=x/p256 (i%8)%256:=fun x=>by
    have h5:x=x%18446744073709551616+p256 (i%8)*(256*(p256 (7-i%8)*(x/18446744073709551616))):=by
      have h6:x=x%18446744073709551616+18446744073709551616*(x/18446744073709551616):=(Int.emod_add_mul_ediv x _).symm
      have h7:(18446744073709551616:Int)*(x/18446744073709551616)=p256 (i%8)*(256*(p256 (7-i%8)*(x/18446744073709551616))):=by
        generalize x/18446744073709551616=y at *
        rw [hB]; grind
      omega
    have h8:x/p256 (i%8)=x%18446744073709551616/p256 (i%8)+256*(p256 (7-i%8)*(x/18446744073709551616)):=by
      have h9:=zad (x%18446744073709551616) (256*(p256 (7-i%8)*(x/18446744073709551616))) (Int.ne_of_gt (Qdd (i%8)))
      rw [←h5] at h9
      exact h9
    omega
  rcases (show i/8=0∨i/8=1 by omega) with h | h
  · rw [h]
    show V%18446744073709551616/p256 (i%8)%256=_
    rw [key,show i%8=i by omega]
  · rw [h]
    show V/18446744073709551616%18446744073709551616/p256 (i%8)%256=_
    rw [key,←hp8,Ql6,show 8+i%8=i by omega]
theorem shr8 (q : Int) (t:Nat) (c:Int) (hc:c=((8*t:Nat):Int)) (ht:t<8):q.fdiv (2^min c.toNat zaf.bits)=q/p256 t:=by
  subst hc
  have hm:min (((8*t:Nat):Int)).toNat zaf.bits=8*t:=by show min (((8*t:Nat):Int)).toNat 64=8*t; omega
  have e:(2:Int)^(8*t)=p256 t:=by unfold p256; rw [Int.pow_mul]; rfl
  rw [hm,e,zag _ (Int.le_of_lt (Qdd t))]
theorem Qip {b : List Int} (h:Qai b) (i:Nat):Qai (b.set i (nth b i%16)):=QbR h _ (by omega) (by omega)
theorem Qnl {b : List Int} (h:Qai b) (i:Nat):Qai (b.set i (nth b i/4*4)):=QbR h _ (by have:=Qbj h i; omega) (by have:=Qbj h i; omega)
theorem Qf1 (key : List Int) (hkl:key.length=32) (hkb:Qai key):0≤rOf key∧rOf key<21267647932558653966460912964485513216:=by
  unfold rOf
  obtain ⟨b0,e0⟩:∃ z,z=(key.drop 0).take (16-0):=⟨_,rfl⟩
  have hl0:b0.length=16:=by rw [e0,zah,zac,hkl]; rfl
  have hb0:Qai b0:=e0▸Qbe (Qb7 hkb 0) _
  rw [←e0]
  have hcb:Qai (Qe7 b0):=by
    exact Qnl (Qnl (Qnl (Qip (Qip (Qip (Qip hb0 3) 7) 11) 15) 4) 8) 12
  have hl:(Qe7 b0).length=16:=by unfold Qe7; simp only [zai,hl0]
  have h15:nth (Qe7 b0) 15≤15:=by
    obtain ⟨x15,e15⟩:∃ x,nth (Qe7 b0) 15=x%16:=by
      match b0,hl0 with
      | [a0,a1,a2,a3,a4,a5,a6,a7,a8,a9,a10,a11,a12,a13,a14,a15],_=>exact ⟨a15,rfl⟩
    rw [e15]; omega
  have h1:=QdV (Qe7 b0) 15 (by omega)
  rw [zab (by omega)] at h1
  have h2:=QgF (Qbe hcb 15)
  have h3:=QcU hcb
  rw [zah,Nat.min_eq_left (by omega)] at h2
  have hp15:p256 15=1329227995784915872903807060280344576:=by decide +kernel
  rw [hp15] at h1 h2
  omega
theorem QnE (key : List Int) (hkl:key.length=32) (hkb:Qai key):0≤sOf key∧sOf key<340282366920938463463374607431768211456:=by
  unfold sOf
  have h1:=QgF (Qbe (Qb7 hkb 16) (32-16))
  rw [zah,zac,hkl] at h1
  exact ⟨QcU (Qbe (Qb7 hkb 16) _),by rw [←p16]; exact h1⟩
set_option maxRecDepth 100000 in
theorem QiS (key : List Int) (w:World) (hkl:key.length=32) (hkb:Qai key):Calls Tryd.prog 66 #[.agg (ints .u8 key)] w (QbF w (fun v W=>∃ g,v=.pointer (some ⟨g,0,none⟩)∧w.heap.size≤g∧Mk g (rOf key) (sOf key) [] W)):=by
  refine enter 35 [(0,.agg (ints .u8 (key)))] Tryd.func66 rfl rfl kj rfl <| sgC fun K1 hK1=>Qar (ints .u8 (key)) 58 1 rfl kj kj fun g2 W1 l2 e1 r2_1=>?_
  have b2:=qT (zbo w).size l2
  refine sg 1 kj <| sgN hK1 <| sgC fun K3 hK3=>Qab (.slice (some ⟨g2,0+16,none⟩) (32-16) (32-16)) 8 rfl kj (Qb3 58 _ _ _ 16 32 32 g2 0 5 rfl kj kj kj ⟨.i64,by kernel_rfl⟩ rfl (by omega) (by omega) (by omega)) <| Qau (.agg (ints .u64 (nw3 (lev ((key.drop 16).take (32-16)))))) 78 #[.slice (some ⟨g2,0+16,none⟩) (32-16) (32-16)] 9 rfl kj kj ((Qjp ((key.drop 16).take (32-16)) _ _ _ (Qj8 (l:=16) (h:=32) hkl r2_1 (by decide) (by decide) (by decide)) (by rw [zah]; omega) (Qbe (Qb7 hkb 16) _))) fun W2 e2=>?_
  have x2:=zbs (zbs (zbo w) e1) e2
  refine Qar (ints .u64 ([0,0,0])) 138 3 rfl kj kj fun g4 W3 l4 e3 r4_3=>Qan g4 _ (ints .u64 (nw3 (lev ((key.drop 16).take (32-16))))) 138 r4_3 rfl kj (Qao 138 _ _ g4 138 _ _ r4_3 rfl kj kj (isz (n:=3) kj (izT (Qa3 _))) (eqsz (n:=3) kj (izT (Qa3 _))) (Qay _ _)) fun W4 p4 r4_4=>sgN hK3 <| wp_seq_k fun K5 hK5=>sgB kj <| wp_block <| wp_loop_rounds 5 ?_
  show zaj _ _ (Exit.then (zak _ _ _ 4) _) _ _
  refine sgB kj <| sgT kj <| wp_seq_k fun K9 hK9=>wp_block <| sgC fun K10 hK10=>Qab (.int .i64 3) 13 rfl kj (QaB 133 _ _ .i64 .i64 ([3,7,11,15]) 0 4 3 3 rfl kj kj kj kj kj rfl (by decide) rfl) <| sg 1 kj <| sgN hK10 <| Qae <| sg 2 kj ?_
  have r2_2:=(Qaa r2_1 e2)
  have r2_4:=(rpn p4 r2_2 e3 l4)
  refine Qab (.int .u8 (nth (key) 3)) 16 rfl kj (Qad 5 _ g2 3 58 _ (.int .u8 (nth (key) 3)) _ r2_4 rfl kj (QaG _ _ _ (zal (by decide) hkl.symm)) kj) <| Qab (.int .u8 (nth key 3%16)) 17 rfl kj (Qah (u:=.int .u8 (bits .and .u8 ((nth (key) 3)) (15))) kj (congrArg (zam .u8) (QlL _ (Qbj hkb 3)))) <| sg 1 kj <| Qan g2 _ (ints .u8 ((key).set 3 (nth key 3%16))) 58 r2_4 rfl kj (Qa1 5 _ _ g2 3 58 _ _ r2_4 rfl kj kj kj (zal (show 3<32 by decide) hkl.symm)) fun W5 p5 r2_5=>?_
  obtain ⟨c1_,ec1_⟩:∃ z,z=(key).set 3 (nth key 3%16):=⟨_,rfl⟩
  have hlc1_:c1_.length=32:=by rw [ec1_,zai,hkl]
  have hxc1_:=Qbj hkb 3
  have hbc1_:Qai c1_:=ec1_▸QbR hkb _ (by omega) (by omega)
  have r2_5_11:W5.heap[g2]? = some (.cells (ints .u8 (c1_)) 58):=QaH r2_5 (by rw [ec1_])
  refine Qal <| hK9 _ _ <| sgA kj ?_
  show zak _ _ _ 4 _ _
  show zaj _ _ (Exit.then (zak _ _ _ 3) _) _ _
  refine sgB kj <| sgT kj <| wp_seq_k fun K14 hK14=>wp_block <| sgC fun K15 hK15=>Qab (.int .i64 7) 13 rfl kj (QaB 133 _ _ .i64 .i64 ([3,7,11,15]) 1 4 3 7 rfl kj kj kj kj kj rfl (by decide) rfl) <| sg 1 kj <| sgN hK15 <| Qae <| sg 2 kj ?_
  refine Qab (.int .u8 (nth (c1_) 7)) 16 rfl kj (Qad 5 _ g2 7 58 _ (.int .u8 (nth (c1_) 7)) _ r2_5_11 rfl kj (QaG _ _ _ (zal (by decide) hlc1_.symm)) kj) <| Qab (.int .u8 (nth c1_ 7%16)) 17 rfl kj (Qah (u:=.int .u8 (bits .and .u8 ((nth (c1_) 7)) (15))) kj (congrArg (zam .u8) (QlL _ (Qbj hbc1_ 7)))) <| sg 1 kj <| Qan g2 _ (ints .u8 ((c1_).set 7 (nth c1_ 7%16))) 58 r2_5_11 rfl kj (Qa1 5 _ _ g2 7 58 _ _ r2_5_11 rfl kj kj kj (zal (show 7<32 by decide) hlc1_.symm)) fun W6 p6 r2_6=>?_
  obtain ⟨c2_,ec2_⟩:∃ z,z=(c1_).set 7 (nth c1_ 7%16):=⟨_,rfl⟩
  have hlc2_:c2_.length=32:=by rw [ec2_,zai,hlc1_]
  have hxc2_:=Qbj hbc1_ 7
  have hbc2_:Qai c2_:=ec2_▸QbR hbc1_ _ (by omega) (by omega)
  have r2_6_16:W6.heap[g2]? = some (.cells (ints .u8 (c2_)) 58):=QaH r2_6 (by rw [ec2_])
  refine Qal <| hK14 _ _ <| sgA kj ?_
  show zak _ _ _ 3 _ _
  show zaj _ _ (Exit.then (zak _ _ _ 2) _) _ _
  refine sgB kj <| sgT kj <| wp_seq_k fun K19 hK19=>wp_block <| sgC fun K20 hK20=>Qab (.int .i64 11) 13 rfl kj (QaB 133 _ _ .i64 .i64 ([3,7,11,15]) 2 4 3 11 rfl kj kj kj kj kj rfl (by decide) rfl) <| sg 1 kj <| sgN hK20 <| Qae <| sg 2 kj ?_
  refine Qab (.int .u8 (nth (c2_) 11)) 16 rfl kj (Qad 5 _ g2 11 58 _ (.int .u8 (nth (c2_) 11)) _ r2_6_16 rfl kj (QaG _ _ _ (zal (by decide) hlc2_.symm)) kj) <| Qab (.int .u8 (nth c2_ 11%16)) 17 rfl kj (Qah (u:=.int .u8 (bits .and .u8 ((nth (c2_) 11)) (15))) kj (congrArg (zam .u8) (QlL _ (Qbj hbc2_ 11)))) <| sg 1 kj <| Qan g2 _ (ints .u8 ((c2_).set 11 (nth c2_ 11%16))) 58 r2_6_16 rfl kj (Qa1 5 _ _ g2 11 58 _ _ r2_6_16 rfl kj kj kj (zal (show 11<32 by decide) hlc2_.symm)) fun W7 p7 r2_7=>?_
  obtain ⟨c3_,ec3_⟩:∃ z,z=(c2_).set 11 (nth c2_ 11%16):=⟨_,rfl⟩
  have hlc3_:c3_.length=32:=by rw [ec3_,zai,hlc2_]
  have hxc3_:=Qbj hbc2_ 11
  have hbc3_:Qai c3_:=ec3_▸QbR hbc2_ _ (by omega) (by omega)
  have r2_7_21:W7.heap[g2]? = some (.cells (ints .u8 (c3_)) 58):=QaH r2_7 (by rw [ec3_])
  refine Qal <| hK19 _ _ <| sgA kj ?_
  show zak _ _ _ 2 _ _
  show zaj _ _ (Exit.then (zak _ _ _ 1) _) _ _
  refine sgB kj <| sgT kj <| wp_seq_k fun K24 hK24=>wp_block <| sgC fun K25 hK25=>Qab (.int .i64 15) 13 rfl kj (QaB 133 _ _ .i64 .i64 ([3,7,11,15]) 3 4 3 15 rfl kj kj kj kj kj rfl (by decide) rfl) <| sg 1 kj <| sgN hK25 <| Qae <| sg 2 kj ?_
  refine Qab (.int .u8 (nth (c3_) 15)) 16 rfl kj (Qad 5 _ g2 15 58 _ (.int .u8 (nth (c3_) 15)) _ r2_7_21 rfl kj (QaG _ _ _ (zal (by decide) hlc3_.symm)) kj) <| Qab (.int .u8 (nth c3_ 15%16)) 17 rfl kj (Qah (u:=.int .u8 (bits .and .u8 ((nth (c3_) 15)) (15))) kj (congrArg (zam .u8) (QlL _ (Qbj hbc3_ 15)))) <| sg 1 kj <| Qan g2 _ (ints .u8 ((c3_).set 15 (nth c3_ 15%16))) 58 r2_7_21 rfl kj (Qa1 5 _ _ g2 15 58 _ _ r2_7_21 rfl kj kj kj (zal (show 15<32 by decide) hlc3_.symm)) fun W8 p8 r2_8=>?_
  obtain ⟨c4_,ec4_⟩:∃ z,z=(c3_).set 15 (nth c3_ 15%16):=⟨_,rfl⟩
  have hlc4_:c4_.length=32:=by rw [ec4_,zai,hlc3_]
  have hxc4_:=Qbj hbc3_ 15
  have hbc4_:Qai c4_:=ec4_▸QbR hbc3_ _ (by omega) (by omega)
  have r2_8_26:W8.heap[g2]? = some (.cells (ints .u8 (c4_)) 58):=QaH r2_8 (by rw [ec4_])
  refine Qal <| hK24 _ _ <| sgA kj ?_
  show zak _ _ _ 1 _ _
  show zaj _ _ (Exit.then (zak _ _ _ 0) _) _ _
  refine sgB kj <| wp_seq_k fun K28 hK28=>cond_false kj <| wp_exit <| hK5 _ _ <| wp_seq_k fun K29 hK29=>sgB kj <| wp_block <| wp_loop_rounds 4 ?_
  show zaj _ _ (Exit.then (zak _ _ _ 3) _) _ _
  refine sgB kj <| sgT kj <| wp_seq_k fun K33 hK33=>wp_block <| sgC fun K34 hK34=>Qab (.int .i64 4) 23 rfl kj (QaB 140 _ _ .i64 .i64 ([4,8,12]) 0 3 3 4 rfl kj kj kj kj kj rfl (by decide) rfl) <| sg 1 kj <| sgN hK34 <| Qae <| sg 2 kj ?_
  refine Qab (.int .u8 (nth (c4_) 4)) 26 rfl kj (Qad 5 _ g2 4 58 _ (.int .u8 (nth (c4_) 4)) _ r2_8_26 rfl kj (QaG _ _ _ (zal (by decide) hlc4_.symm)) kj) <| Qab (.int .u8 (nth c4_ 4/4*4)) 27 rfl kj (Qah (u:=.int .u8 (bits .and .u8 ((nth (c4_) 4)) (252))) kj (congrArg (zam .u8) (QkB _ (Qbj hbc4_ 4)))) <| sg 1 kj <| Qan g2 _ (ints .u8 ((c4_).set 4 (nth c4_ 4/4*4))) 58 r2_8_26 rfl kj (Qa1 5 _ _ g2 4 58 _ _ r2_8_26 rfl kj kj kj (zal (show 4<32 by decide) hlc4_.symm)) fun W9 p9 r2_9=>?_
  obtain ⟨c5_,ec5_⟩:∃ z,z=(c4_).set 4 (nth c4_ 4/4*4):=⟨_,rfl⟩
  have hlc5_:c5_.length=32:=by rw [ec5_,zai,hlc4_]
  have hxc5_:=Qbj hbc4_ 4
  have hbc5_:Qai c5_:=ec5_▸QbR hbc4_ _ (by omega) (by omega)
  have r2_9_35:W9.heap[g2]? = some (.cells (ints .u8 (c5_)) 58):=QaH r2_9 (by rw [ec5_])
  refine Qal <| hK33 _ _ <| sgA kj ?_
  show zak _ _ _ 3 _ _
  show zaj _ _ (Exit.then (zak _ _ _ 2) _) _ _
  refine sgB kj <| sgT kj <| wp_seq_k fun K38 hK38=>wp_block <| sgC fun K39 hK39=>Qab (.int .i64 8) 23 rfl kj (QaB 140 _ _ .i64 .i64 ([4,8,12]) 1 3 3 8 rfl kj kj kj kj kj rfl (by decide) rfl) <| sg 1 kj <| sgN hK39 <| Qae <| sg 2 kj ?_
  refine Qab (.int .u8 (nth (c5_) 8)) 26 rfl kj (Qad 5 _ g2 8 58 _ (.int .u8 (nth (c5_) 8)) _ r2_9_35 rfl kj (QaG _ _ _ (zal (by decide) hlc5_.symm)) kj) <| Qab (.int .u8 (nth c5_ 8/4*4)) 27 rfl kj (Qah (u:=.int .u8 (bits .and .u8 ((nth (c5_) 8)) (252))) kj (congrArg (zam .u8) (QkB _ (Qbj hbc5_ 8)))) <| sg 1 kj <| Qan g2 _ (ints .u8 ((c5_).set 8 (nth c5_ 8/4*4))) 58 r2_9_35 rfl kj (Qa1 5 _ _ g2 8 58 _ _ r2_9_35 rfl kj kj kj (zal (show 8<32 by decide) hlc5_.symm)) fun W10 p10 r2_10=>?_
  obtain ⟨c6_,ec6_⟩:∃ z,z=(c5_).set 8 (nth c5_ 8/4*4):=⟨_,rfl⟩
  have hlc6_:c6_.length=32:=by rw [ec6_,zai,hlc5_]
  have hxc6_:=Qbj hbc5_ 8
  have hbc6_:Qai c6_:=ec6_▸QbR hbc5_ _ (by omega) (by omega)
  have r2_10_40:W10.heap[g2]? = some (.cells (ints .u8 (c6_)) 58):=QaH r2_10 (by rw [ec6_])
  refine Qal <| hK38 _ _ <| sgA kj ?_
  show zak _ _ _ 2 _ _
  show zaj _ _ (Exit.then (zak _ _ _ 1) _) _ _
  refine sgB kj <| sgT kj <| wp_seq_k fun K43 hK43=>wp_block <| sgC fun K44 hK44=>Qab (.int .i64 12) 23 rfl kj (QaB 140 _ _ .i64 .i64 ([4,8,12]) 2 3 3 12 rfl kj kj kj kj kj rfl (by decide) rfl) <| sg 1 kj <| sgN hK44 <| Qae <| sg 2 kj ?_
  refine Qab (.int .u8 (nth (c6_) 12)) 26 rfl kj (Qad 5 _ g2 12 58 _ (.int .u8 (nth (c6_) 12)) _ r2_10_40 rfl kj (QaG _ _ _ (zal (by decide) hlc6_.symm)) kj) <| Qab (.int .u8 (nth c6_ 12/4*4)) 27 rfl kj (Qah (u:=.int .u8 (bits .and .u8 ((nth (c6_) 12)) (252))) kj (congrArg (zam .u8) (QkB _ (Qbj hbc6_ 12)))) <| sg 1 kj <| Qan g2 _ (ints .u8 ((c6_).set 12 (nth c6_ 12/4*4))) 58 r2_10_40 rfl kj (Qa1 5 _ _ g2 12 58 _ _ r2_10_40 rfl kj kj kj (zal (show 12<32 by decide) hlc6_.symm)) fun W11 p11 r2_11=>?_
  obtain ⟨c7_,ec7_⟩:∃ z,z=(c6_).set 12 (nth c6_ 12/4*4):=⟨_,rfl⟩
  have hlc7_:c7_.length=32:=by rw [ec7_,zai,hlc6_]
  have hxc7_:=Qbj hbc6_ 12
  have hbc7_:Qai c7_:=ec7_▸QbR hbc6_ _ (by omega) (by omega)
  have r2_11_45:W11.heap[g2]? = some (.cells (ints .u8 (c7_)) 58):=QaH r2_11 (by rw [ec7_])
  refine Qal <| hK43 _ _ <| sgA kj ?_
  show zak _ _ _ 1 _ _
  show zaj _ _ (Exit.then (zak _ _ _ 0) _) _ _
  refine sgB kj <| wp_seq_k fun K47 hK47=>cond_false kj <| wp_exit <| hK29 _ _ <| wp_seq_k fun K48 hK48=>?_
  have hck:c7_=Qk3 key:=by unfold Qk3; rw [ec7_,ec6_,ec5_,ec4_,ec3_,ec2_,ec1_]
  have hro:lev ((c7_.drop 0).take (16-0))=rOf key:=by unfold rOf; rw [hck,Qh3 key hkl]
  refine Qbg 3 [⟨none,[(1,none)]⟩,⟨none,[(30,some 0)]⟩,⟨none,[(3,none)]⟩] kj kj fun F hF=>Qa8 (Qas _) (.slice (some ⟨g2,0+0,none⟩) (16-0) (32-0)) kj kj (fun W=>(Qb3 58 _ _ _ 0 16 32 g2 0 5 rfl kj kj kj rfl ⟨.i64,by kernel_rfl⟩ (by omega) (by omega) (by omega))) <| Qoi (Qas _) (.agg (ints .u64 (nw3 (lev ((c7_.drop 0).take (16-0)))))) 78 #[.slice (some ⟨g2,0+0,none⟩) (16-0) (32-0)] kj kj (fun _=>kj) (fun W hR=>(Qjp ((c7_.drop 0).take (16-0)) _ _ W (Qj8 (l:=0) (h:=16) hlc7_ (Qaa (Qaa r2_11_45 (Qaj _)) hR) (by decide) (by decide) (by decide)) (by rw [zah]; omega) (Qbe (Qb7 hbc7_ 0) _))) ?_
  refine Qbc (Qas _) (.agg (ints .u64 (nw3 (lev ((key.drop 16).take (32-16)))))) kj kj (fun W hR=>(Qap 138 _ g4 138 _ _ (Qaa (Qaa (zbq p11 (zbq p10 (zbq p9 (zbq p8 (zbq p7 (zbq p6 (zbq p5 r4_4 (QaJ r2_2 l4)) (QaJ r2_2 l4)) (QaJ r2_2 l4)) (QaJ r2_2 l4)) (QaJ r2_2 l4)) (QaJ r2_2 l4)) (QaJ r2_2 l4)) (Qaj _)) hR) rfl kj kj (isz (n:=3) kj (izT (Qa3 _))))) <| QcO (hF _ fun W12 e12=>?_)
  simp only [zan,zao,zap,zaq,zar,zas,finE,up]
  clear hF
  have x12:=zbs (zbr p11 (zbr p10 (zbr p9 (zbr p8 (zbr p7 (zbr p6 (zbr p5 (zbr p4 (zbs x2 e3) (qT x2.size l4)) b2) b2) b2) b2) b2) b2) b2) e12
  refine sg 1 kj <| Qar (cat [ints .u64 (nw3 (lev ((c7_.drop 0).take (16-0)))),ints .u64 (nw3 (lev ((key.drop 16).take (32-16)))),ints .u64 (nw3 (0)),ints .u8 (zat 17 0),#[.int .i64 0]]) 143 34 rfl kj kj fun g49 W13 l49 e13 r49_13=>sg 1 kj <| sgN hK48 <| wp_ret ?_
  repeat (first | with_reducible refine goR1 ?_ | with_reducible refine goR2 ?_)
  exact (show bodyPost _ _ _ .ret _ _ from ret1 (.pointer (some ⟨g49,0,none⟩)) rfl (Qaz kj) ⟨_,rfl,(zbs x12 e13),g49,rfl,(qT x12.size l49),0,zat 17 0,0,0,rfl,(by decide),(by have h9:=r49_13; rw [hro] at h9; exact h9),rfl,⟨by decide,by decide⟩,qZ ..,(fun x hx=>by rw [List.mem_replicate] at hx; omega),rfl⟩)
set_option maxRecDepth 100000 in
theorem endC (g : Nat) (r s:Int) (t:List Int) (w:World) (hr:0≤r∧r<21267647932558653966460912964485513216) (hs:0≤s∧s<340282366920938463463374607431768211456) (hM:Mk g r s t w) :
  Calls Tryd.prog 68 #[.pointer (some ⟨g,0,none⟩)] w (fun e W=>e=.returned (.agg (ints .u8 (tagV r s t)))∧ExtB g w W):=by
 obtain ⟨S,pl,q,m,hq,hm,hg,hSm,hS,hpl,hpb,hpt⟩:=hM
 refine enter 47 [(0,.pointer (some ⟨g,0,none⟩))] Tryd.func68 rfl rfl kj rfl <| sgC fun K2 hK2=>Qar (ints .u8 (zat 16 0)) 84 2 rfl kj kj fun g3 W1 l3 e1 r3_1=>?_
 have x1:=zbu (zbt g w) e1
 have b3:=qT (zbt g w).size l3
 refine sgN hK2 <| wp_seq_k fun K4 hK4=>sgC fun K5 hK5=>sg 3 kj ?_
 have r1_1:=(Qaa hg e1)
 refine Qab (.int .i64 ((m:Nat):Int)) 10 rfl kj (Qad 3 _ g 26 143 _ (.int .i64 ((m:Nat):Int)) _ r1_1 rfl kj (Qam [ints .u64 (nw3 r),ints .u64 (nw3 s),ints .u64 (nw3 (S)),ints .u8 (pl)] [#[.int .i64 ((m:Nat):Int)]] [] 26 (by rw [Qac,Qac,Qac,Qac]; simp only [qS,cat,(izT (Qa3 _)),(izT hpl)]; rfl) 0 _ rfl) kj) ?_
 refine sg 1 kj <| sgN hK5 <| Qa2 (t:=decide (((m:Nat):Int)>0)) kj (fun c6=>?_) (fun c6=>?_)
 ·skip
  have hm0:0<m:=by have:=of_decide_eq_true c6; omega
  refine Qae <| sg 1 kj <| Qav (fun v W'=>v=.tuple #[]∧ExtB g W1 W'∧W'.heap[g]? = some (.cells (cat [ints .u64 (nw3 r),ints .u64 (nw3 s),ints .u64 (nw3 (QeU r S (pl.take m))),ints .u8 (pl.set m 1),#[.int .i64 0]]) 143)) 79 #[.pointer (some ⟨g,0,none⟩)] 13 rfl kj kj ((Qn3 g r s S pl m _ hr hS hpl hpb (by omega) r1_1).mono fun e w' h=>⟨_,h.1,rfl,h.2⟩) fun v W2 h=>?_
  obtain ⟨rfl,q2,r1_2⟩:=h
  have hpl2:(pl.set m 1).length=17:=by rw [zai,hpl]
  have x2:=ExtB.trans x1 q2
  obtain ⟨SS,eSS⟩:∃ z,z=QeU r S (pl.take m):=⟨_,rfl⟩
  have hSS:SS%PP=QdL r t:=by rw [eSS,hpt]; exact Qo2 hq (by omega) hm hSm
  have hSb:0≤SS∧SS<2041694201525630780780247644590609268736:=eSS▸Qh9 hS hr (Qbe hpb m) (by rw [zah]; omega)
  rw [←eSS] at r1_2
  refine Qal <| hK4 _ _ <| sgC fun K7 hK7=>sg 3 kj <| Qab (.agg (ints .u64 (nw3 (SS)))) 17 rfl kj (Qa0 138 _ g 6 143 _ _ _ r1_2 rfl kj (Qam [ints .u64 (nw3 r),ints .u64 (nw3 s)] [ints .u64 (nw3 (SS))] [ints .u8 (pl.set m 1),#[.int .i64 0]] 6 (by rw [Qac,Qac]; simp only [qS,cat,(izT (Qa3 _))]; rfl)) kj (isz (n:=3) kj (izT (Qa3 _)))) ?_
  refine Qar (ints .u64 ([0,0,0])) 138 3 rfl kj kj fun g8 W3 l8 e3 r8_3=>?_
  have x3:=zbu x2 e3
  have b8:=qT x2.size l8
  refine Qan g8 _ (ints .u64 (nw3 (SS))) 138 r8_3 rfl kj (Qao 138 _ _ g8 138 _ _ r8_3 rfl kj kj (isz (n:=3) kj (izT (Qa3 _))) (eqsz (n:=3) kj (izT (Qa3 _))) (Qay _ _)) fun W4 p4 r8_4=>?_
  have x4:=zb0 x3 p4 b8
  refine sgN hK7 <| wp_seq_k fun K9 hK9=>sgC fun K10 hK10=>Qab (.agg (ints .u64 (nw3 (SS)))) 18 rfl kj (Qap 138 _ g8 138 _ _ r8_4 rfl kj kj (isz (n:=3) kj (izT (Qa3 _)))) <| sg 1 kj <| Qau (.agg (ints .u64 (nw3 (SS+5)))) 80 #[.agg (ints .u64 (nw3 (SS))),.agg (ints .u64 (nw3 5))] 20 rfl kj kj ((Qhm SS 5 hSb.1 (by decide) (by omega) (by decide) (by omega)) _) fun W5 e5=>?_
  have x5:=zbu x4 e5
  refine Qar (ints .u64 ([0,0,0])) 138 4 rfl kj kj fun g11 W6 l11 e6 r11_6=>?_
  have x6:=zbu x5 e6
  refine Qan g11 _ (ints .u64 (nw3 (SS+5))) 138 r11_6 rfl kj (Qao 138 _ _ g11 138 _ _ r11_6 rfl kj kj (isz (n:=3) kj (izT (Qa3 _))) (eqsz (n:=3) kj (izT (Qa3 _))) (Qay _ _)) fun W7 p7 r11_7=>?_
  have x7:=zb0 x6 p7 (qT x5.size l11)
  refine sgN hK10 <| sgC fun K12 hK12=>sg 1 kj <| Qab (.int .u64 (nth (nw3 (SS+5)) 2)) 22 rfl kj (Qad 75 _ g11 2 138 _ (.int .u64 (nth (nw3 (SS+5)) 2)) _ r11_7 rfl kj (QaG _ _ _ (zal (by decide) (Qa3 _).symm)) kj) <| Qab (.bool (decide (1361129467683753853853498429727072845824≤SS+5))) 23 rfl kj (Qah (u:=.bool (decide ((nth (nw3 (SS+5)) 2)≥4))) kj (congrArg zau (geq4 SS hSb.1 hSb.2))) <| sgN hK12 <| Qa2 (t:=decide (1361129467683753853853498429727072845824≤SS+5)) kj (fun c13=>?_) (fun c13=>?_)
  ·skip
   have hbig:1361129467683753853853498429727072845824≤SS+5:=of_decide_eq_true c13
   have hfin:by16 (SS+5+s)=by16 (QdL r t+s):=by
    have e:SS+5+s=(QdL r t+s)+1361129467683753853853498429727072845824:=by rw [←hSS]; unfold PP; omega
    rw [e,Qio]
   refine Qae <| Qab (.agg (ints .u64 (nw3 (SS+5)))) 24 rfl kj (Qap 138 _ g11 138 _ _ r11_7 rfl kj kj (isz (n:=3) kj (izT (Qa3 _)))) ?_
   have r8_5:=(Qaa r8_4 e5)
   have r8_6:=(Qaa r8_5 e6)
   have r8_7:=(zbq p7 r8_6 (Qag r8_5 l11))
   refine Qan g8 _ (ints .u64 (nw3 (SS+5))) 138 r8_7 rfl kj (Qao 138 _ _ g8 138 _ _ r8_7 rfl kj kj (isz (n:=3) kj (izT (Qa3 _))) (eqsz (n:=3) (izT (Qa3 _)) (izT (Qa3 _))) (Qay _ _)) fun W8 p8 r8_8=>?_
   have x8:=zb0 x7 p8 b8
   refine Qal <| hK9 _ _ <| wp_seq_k fun K14 hK14=>QaL 6 [⟨none,[(3,none)]⟩,⟨none,[(0,none)]⟩,⟨none,[(26,some 1)]⟩,⟨none,[(27,some 2)]⟩,⟨none,[(28,some 3)]⟩,⟨none,[(25,some 0),(29,some 4)]⟩] kj kj fun F hF=>Qa7 (.agg (ints .u64 (nw3 (SS+5)))) kj kj (fun W hR=>(Qap 138 _ g8 138 _ _ (Qaa (Qaa r8_8 (Qaj _)) hR) rfl kj kj (isz (n:=3) kj (izT (Qa3 _))))) <| Qak (.pointer (some ⟨g,0,none⟩)) kj kj (fun _=>kj) <| Qak (.pointer (some ⟨g,0,none⟩)) kj kj (fun _=>kj) <| Qak (.pointer (some ⟨g,3,none⟩)) kj kj (fun _=>kj) ?_
   have r1_3:=(Qaa r1_2 e3)
   have r1_4:=(zbq p4 r1_3 (Qag r1_2 l8))
   have r1_5:=(Qaa r1_4 e5)
   have r1_6:=(Qaa r1_5 e6)
   have r1_7:=(zbq p7 r1_6 (Qag r1_5 l11))
   refine Qa7 (.agg (ints .u64 (nw3 s))) kj kj (fun W hR=>(Qa0 138 _ g 3 143 _ _ _ (Qaa (Qaa (zbq p8 r1_7 (Qag r1_2 l8)) (Qaj _)) hR) rfl kj (Qam [ints .u64 (nw3 r)] [ints .u64 (nw3 s)] [ints .u64 (nw3 (SS)),ints .u8 (pl.set m 1),#[.int .i64 0]] 3 (izT (Qa3 _))) kj (isz (n:=3) kj (izT (Qa3 _))))) <| Qdl (.agg (ints .u64 (nw3 (SS+5+s)))) 80 #[.agg (ints .u64 (nw3 (SS+5))),.agg (ints .u64 (nw3 s))] kj kj (fun _=>kj) (fun W hR=>(Qhm (SS+5) s (by omega) hs.1 (by omega) (by omega) (by omega)) W) <| QaQ (hF _ kj fun W9 e9=>?_)
   simp only [ups,up,Kn.val,zap,zaq,zar,zas,zan,zao]
   clear hF
   have x9:=zbu x8 e9
   have r8_9:=(Qaa r8_8 e9)
   refine Qan g8 _ (ints .u64 (nw3 (SS+5+s))) 138 r8_9 rfl kj (Qao 138 _ _ g8 138 _ _ r8_9 rfl kj kj (isz (n:=3) kj (izT (Qa3 _))) (eqsz (n:=3) (izT (Qa3 _)) (izT (Qa3 _))) (Qay _ _)) fun W10 p10 r8_10=>?_
   have x10:=zb0 x9 p10 b8
   refine sgN hK14 <| sgC fun K15 hK15=>Qar (ints .u8 (zat 16 0)) 84 5 rfl kj kj fun g16 W11 l16 e11 r16_11=>?_
   have x11:=zbu x10 e11
   refine sgN hK15 <| wp_seq_k fun K17 hK17=>sgB kj <| wp_block <| QaF (fun (s1:Nat)=>[(2,.pointer (some ⟨g3,0,none⟩)),(3,.pointer (some ⟨g8,0,none⟩)),(5,.pointer (some ⟨g16,0,none⟩)),(31,.int .i64 ((s1:Nat):Int))]) (fun (s1:Nat) W=>(s1≤16)∧(W.heap[g16]? = some (.cells (ints .u8 (QbH (by16 (SS+5+s)) 16 s1)) 84))∧(Qaf [g16] W11 W)∧(ExtB g w W)) (fun (s1:Nat)=>16-s1) 0 ⟨kj,kj,kj,kj,trivial⟩ ⟨(zav _),(QaH r16_11 (Qcp _ 16)),(zb1 [g16] W11),x11⟩ fun s1 X1 V1 hI1=>?_
   obtain ⟨i,hs1⟩:∃ z,z=s1:=⟨_,rfl⟩
   subst hs1
   obtain ⟨hi,q16_1,kk1,xx1⟩:=hI1
   replace hi:i≤16:=hi
   replace q16_1:V1.heap[g16]? = some (.cells (ints .u8 (QbH (by16 (SS+5+s)) 16 i)) 84):=q16_1
   replace kk1:Qaf [g16] W11 V1:=kk1
   replace xx1:ExtB g w V1:=xx1
   have q12:=kk1
   refine sgB kj <| wp_seq_k fun K20 hK20=>Qa2 (t:=decide (((i:Nat):Int)<16)) kj (fun c21=>?_) (fun c21=>?_)
   ·skip
    have hlt32:i<16:=by have:=of_decide_eq_true c21; omega
    refine wp_skip <| hK20 _ _ <| wp_seq_k fun K22 hK22=>wp_block <| sgB kj <| Qae <| sg 2 kj <| Qab (.int .i64 ((i/8:Nat):Int)) 36 rfl kj (Qah (u:=.int .i64 (zaw.wrap (zax (((i:Nat):Int)) (8)))) kj (congrArg (zam .i64) (Qeq _ 8 (by omega)))) <| Qab (.pointer (some ⟨g8,i/8,none⟩)) 37 rfl kj (QaC _ _ _ .i64 (i/8) _ 3 75 rfl kj kj kj kj (by omega)) ?_
    have r8_11:=(Qaa r8_10 e11)
    refine Qab (.int .u64 (nth (nw3 (SS+5+s)) (i/8))) 38 rfl kj (Qad 75 _ g8 (i/8) 138 _ (.int .u64 (nth (nw3 (SS+5+s)) (i/8))) _ (zb2 q12 r8_11 (Qax (Qag r8_10 l16) QaE)) rfl kj (QaG _ _ _ (zal (by omega) (Qa3 _).symm)) kj) <| sg 1 kj <| Qab (.int .i64 ((i%8:Nat):Int)) 40 rfl kj (Qah (u:=.int .i64 (zay (((i:Nat):Int)) (8))) kj (congrArg (zam .i64) (Qc9 _ 8))) <| Qab (.int .i64 ((8*(i%8):Nat):Int)) 41 rfl kj (Qah (u:=.int .i64 (zaw.wrap (8*((i%8:Nat):Int)))) kj (congrArg (zam .i64) (i64n _ _ (by omega) (by omega)))) <| Qab (.int .u64 (nth (nw3 (SS+5+s)) (i/8)/p256 (i%8))) 42 rfl kj (QaM .shr _ _ _ _ .u64 .i64 _ _ _ rfl kj kj (QbW _ _ _ _ _ _ (by omega) (shr8 _ (i%8) _ rfl (by omega)))) <| Qab (.int .u8 (nth (by16 (SS+5+s)) i)) 43 rfl kj (Qah (u:=.int .u8 (zae.wrap (nth (nw3 (SS+5+s)) (i/8)/p256 (i%8)))) kj (congrArg (zam .u8) (out_byte _ i hlt32))) <| Qab (.pointer (some ⟨g16,i,none⟩)) 44 rfl kj (QaC _ _ _ .i64 (i) _ 16 5 rfl kj kj kj kj (by omega)) <| Qan g16 _ (ints .u8 ((QbH (by16 (SS+5+s)) 16 i).set i (nth (by16 (SS+5+s)) i))) 84 q16_1 rfl kj (Qa1 5 _ _ g16 i 84 _ _ q16_1 rfl kj kj kj (zal (by omega) (QcB _ 16 _ (QaT _) hi).symm)) fun W13 p13 r16_13=>?_
    have x13:=zb0 xx1 p13 (qT x10.size l16)
    refine Qal <| hK22 _ _ <| Qae <| Qab (.int .i64 ((i+1:Nat):Int)) 45 rfl kj (Qah (u:=.int .i64 (zaw.wrap (((i:Nat):Int)+1))) kj (congrArg (zam .i64) (i64n _ _ (by omega) (by omega)))) <| sg 1 kj <| Qal ?_
    repeat (first | with_reducible refine goX1 ?_ | with_reducible refine goX2 ?_ | with_reducible refine goX3 ?_)
    exact Qa5 (i+1) ⟨kj,kj,kj,kj,trivial⟩ ⟨(show i+1≤16 by omega),(QaH r16_13 (Qcq _ 16 i (QaT _) hlt32)),(zb4 q12 p13 (.inl (by simp))),x13⟩ (by show 16-(i+1)<16-i; omega)
   ·skip
    have heq32:i=16:=by have:=of_decide_eq_false c21; omega
    subst heq32
    have r16_12_24:V1.heap[g16]? = some (.cells (ints .u8 (by16 (SS+5+s))) 84):=QaH q16_1 (Qcb _ 16 (QaT _))
    refine wp_exit <| hK17 _ _ <| sgC fun K25 hK25=>Qab (.agg (ints .u8 (by16 (SS+5+s)))) 46 rfl kj (Qap 84 _ g16 84 _ _ r16_12_24 rfl kj kj (isz (n:=16) kj (izT (QaT _)))) ?_
    have r3_2:=(zbv q2 r3_1 (QaJ hg l3))
    have r3_3:=(Qaa r3_2 e3)
    have r3_4:=(zbq p4 r3_3 (Qag r3_2 l8))
    have r3_5:=(Qaa r3_4 e5)
    have r3_6:=(Qaa r3_5 e6)
    have r3_7:=(zbq p7 r3_6 (Qag r3_5 l11))
    have r3_8:=(zbq p8 r3_7 (Qag r3_2 l8))
    have r3_9:=(Qaa r3_8 e9)
    have r3_10:=(zbq p10 r3_9 (Qag r3_2 l8))
    have r3_11:=(Qaa r3_10 e11)
    have r3_12:=(zb2 q12 r3_11 (Qax (Qag r3_10 l16) QaE))
    refine Qan g3 _ (ints .u8 (by16 (SS+5+s))) 84 r3_12 rfl kj (Qao 84 _ _ g3 84 _ _ r3_12 rfl kj kj (isz (n:=16) kj (izT (QaT _))) (eqsz (n:=16) (izT (qZ (n:=16))) (izT (QaT _))) (Qay _ _)) fun W13 p13 r3_13=>?_
    have x13:=zb0 xx1 p13 b3
    refine sgN hK25 <| wp_ret ?_
    repeat (first | with_reducible refine goR1 ?_ | with_reducible refine goR2 ?_)
    exact (show bodyPost _ _ _ .ret _ _ from ret1 (.agg (ints .u8 (by16 (SS+5+s)))) rfl (QaP g3 84 _ r3_13 kj kj (isz (n:=16) kj (izT (QaT _)))) ⟨by unfold tagV; rw [hfin],x13⟩)
  ·skip
   have hbig:¬ 1361129467683753853853498429727072845824≤SS+5:=of_decide_eq_false c13
   have hfin:by16 (SS+s)=by16 (QdL r t+s):=by
    have e:SS+s=QdL r t+s:=by rw [←hSS]; unfold PP; omega
    rw [e]
   refine wp_skip <| hK9 _ _ <| wp_seq_k fun K26 hK26=>QaL 6 [⟨none,[(3,none)]⟩,⟨none,[(0,none)]⟩,⟨none,[(26,some 1)]⟩,⟨none,[(27,some 2)]⟩,⟨none,[(28,some 3)]⟩,⟨none,[(25,some 0),(29,some 4)]⟩] kj kj fun F hF=>?_
   have r8_5:=(Qaa r8_4 e5)
   have r8_6:=(Qaa r8_5 e6)
   have r8_7:=(zbq p7 r8_6 (Qag r8_5 l11))
   refine Qa7 (.agg (ints .u64 (nw3 (SS)))) kj kj (fun W hR=>(Qap 138 _ g8 138 _ _ (Qaa (Qaa r8_7 (Qaj _)) hR) rfl kj kj (isz (n:=3) kj (izT (Qa3 _))))) <| Qak (.pointer (some ⟨g,0,none⟩)) kj kj (fun _=>kj) <| Qak (.pointer (some ⟨g,0,none⟩)) kj kj (fun _=>kj) <| Qak (.pointer (some ⟨g,3,none⟩)) kj kj (fun _=>kj) ?_
   have r1_3:=(Qaa r1_2 e3)
   have r1_4:=(zbq p4 r1_3 (Qag r1_2 l8))
   have r1_5:=(Qaa r1_4 e5)
   have r1_6:=(Qaa r1_5 e6)
   have r1_7:=(zbq p7 r1_6 (Qag r1_5 l11))
   refine Qa7 (.agg (ints .u64 (nw3 s))) kj kj (fun W hR=>(Qa0 138 _ g 3 143 _ _ _ (Qaa (Qaa r1_7 (Qaj _)) hR) rfl kj (Qam [ints .u64 (nw3 r)] [ints .u64 (nw3 s)] [ints .u64 (nw3 (SS)),ints .u8 (pl.set m 1),#[.int .i64 0]] 3 (izT (Qa3 _))) kj (isz (n:=3) kj (izT (Qa3 _))))) <| Qdl (.agg (ints .u64 (nw3 (SS+s)))) 80 #[.agg (ints .u64 (nw3 (SS))),.agg (ints .u64 (nw3 s))] kj kj (fun _=>kj) (fun W hR=>(Qhm (SS) s (by omega) hs.1 (by omega) (by omega) (by omega)) W) <| QaQ (hF _ kj fun W8 e8=>?_)
   simp only [ups,up,Kn.val,zap,zaq,zar,zas,zan,zao]
   clear hF
   have x8:=zbu x7 e8
   have r8_8:=(Qaa r8_7 e8)
   refine Qan g8 _ (ints .u64 (nw3 (SS+s))) 138 r8_8 rfl kj (Qao 138 _ _ g8 138 _ _ r8_8 rfl kj kj (isz (n:=3) kj (izT (Qa3 _))) (eqsz (n:=3) (izT (Qa3 _)) (izT (Qa3 _))) (Qay _ _)) fun W9 p9 r8_9=>?_
   have x9:=zb0 x8 p9 b8
   refine sgN hK26 <| sgC fun K27 hK27=>Qar (ints .u8 (zat 16 0)) 84 5 rfl kj kj fun g28 W10 l28 e10 r28_10=>?_
   have x10:=zbu x9 e10
   refine sgN hK27 <| wp_seq_k fun K29 hK29=>sgB kj <| wp_block <| QaF (fun (s2:Nat)=>[(2,.pointer (some ⟨g3,0,none⟩)),(3,.pointer (some ⟨g8,0,none⟩)),(5,.pointer (some ⟨g28,0,none⟩)),(31,.int .i64 ((s2:Nat):Int))]) (fun (s2:Nat) W=>(s2≤16)∧(W.heap[g28]? = some (.cells (ints .u8 (QbH (by16 (SS+s)) 16 s2)) 84))∧(Qaf [g28] W10 W)∧(ExtB g w W)) (fun (s2:Nat)=>16-s2) 0 ⟨kj,kj,kj,kj,trivial⟩ ⟨(zav _),(QaH r28_10 (Qcp _ 16)),(zb1 [g28] W10),x10⟩ fun s2 X2 V2 hI2=>?_
   obtain ⟨i,hs2⟩:∃ z,z=s2:=⟨_,rfl⟩
   subst hs2
   obtain ⟨hi,q28_2,kk2,xx2⟩:=hI2
   replace hi:i≤16:=hi
   replace q28_2:V2.heap[g28]? = some (.cells (ints .u8 (QbH (by16 (SS+s)) 16 i)) 84):=q28_2
   replace kk2:Qaf [g28] W10 V2:=kk2
   replace xx2:ExtB g w V2:=xx2
   have q11:=kk2
   refine sgB kj <| wp_seq_k fun K32 hK32=>Qa2 (t:=decide (((i:Nat):Int)<16)) kj (fun c33=>?_) (fun c33=>?_)
   ·skip
    have hlt32:i<16:=by have:=of_decide_eq_true c33; omega
    refine wp_skip <| hK32 _ _ <| wp_seq_k fun K34 hK34=>wp_block <| sgB kj <| Qae <| sg 2 kj <| Qab (.int .i64 ((i/8:Nat):Int)) 36 rfl kj (Qah (u:=.int .i64 (zaw.wrap (zax (((i:Nat):Int)) (8)))) kj (congrArg (zam .i64) (Qeq _ 8 (by omega)))) <| Qab (.pointer (some ⟨g8,i/8,none⟩)) 37 rfl kj (QaC _ _ _ .i64 (i/8) _ 3 75 rfl kj kj kj kj (by omega)) ?_
    have r8_10:=(Qaa r8_9 e10)
    have r8_11:=(zb2 q11 r8_10 (Qax (Qag r8_9 l28) QaE))
    refine Qab (.int .u64 (nth (nw3 (SS+s)) (i/8))) 38 rfl kj (Qad 75 _ g8 (i/8) 138 _ (.int .u64 (nth (nw3 (SS+s)) (i/8))) _ r8_11 rfl kj (QaG _ _ _ (zal (by omega) (Qa3 _).symm)) kj) <| sg 1 kj <| Qab (.int .i64 ((i%8:Nat):Int)) 40 rfl kj (Qah (u:=.int .i64 (zay (((i:Nat):Int)) (8))) kj (congrArg (zam .i64) (Qc9 _ 8))) <| Qab (.int .i64 ((8*(i%8):Nat):Int)) 41 rfl kj (Qah (u:=.int .i64 (zaw.wrap (8*((i%8:Nat):Int)))) kj (congrArg (zam .i64) (i64n _ _ (by omega) (by omega)))) <| Qab (.int .u64 (nth (nw3 (SS+s)) (i/8)/p256 (i%8))) 42 rfl kj (QaM .shr _ _ _ _ .u64 .i64 _ _ _ rfl kj kj (QbW _ _ _ _ _ _ (by omega) (shr8 _ (i%8) _ rfl (by omega)))) <| Qab (.int .u8 (nth (by16 (SS+s)) i)) 43 rfl kj (Qah (u:=.int .u8 (zae.wrap (nth (nw3 (SS+s)) (i/8)/p256 (i%8)))) kj (congrArg (zam .u8) (out_byte _ i hlt32))) <| Qab (.pointer (some ⟨g28,i,none⟩)) 44 rfl kj (QaC _ _ _ .i64 (i) _ 16 5 rfl kj kj kj kj (by omega)) <| Qan g28 _ (ints .u8 ((QbH (by16 (SS+s)) 16 i).set i (nth (by16 (SS+s)) i))) 84 q28_2 rfl kj (Qa1 5 _ _ g28 i 84 _ _ q28_2 rfl kj kj kj (zal (by omega) (QcB _ 16 _ (QaT _) hi).symm)) fun W12 p12 r28_12=>?_
    have x12:=zb0 xx2 p12 (qT x9.size l28)
    refine Qal <| hK34 _ _ <| Qae <| Qab (.int .i64 ((i+1:Nat):Int)) 45 rfl kj (Qah (u:=.int .i64 (zaw.wrap (((i:Nat):Int)+1))) kj (congrArg (zam .i64) (i64n _ _ (by omega) (by omega)))) <| sg 1 kj <| Qal ?_
    repeat (first | with_reducible refine goX1 ?_ | with_reducible refine goX2 ?_ | with_reducible refine goX3 ?_)
    exact Qa5 (i+1) ⟨kj,kj,kj,kj,trivial⟩ ⟨(show i+1≤16 by omega),(QaH r28_12 (Qcq _ 16 i (QaT _) hlt32)),(zb4 q11 p12 (.inl (by simp))),x12⟩ (by show 16-(i+1)<16-i; omega)
   ·skip
    have heq32:i=16:=by have:=of_decide_eq_false c33; omega
    subst heq32
    have r28_11_36:V2.heap[g28]? = some (.cells (ints .u8 (by16 (SS+s))) 84):=QaH q28_2 (Qcb _ 16 (QaT _))
    refine wp_exit <| hK29 _ _ <| sgC fun K37 hK37=>Qab (.agg (ints .u8 (by16 (SS+s)))) 46 rfl kj (Qap 84 _ g28 84 _ _ r28_11_36 rfl kj kj (isz (n:=16) kj (izT (QaT _)))) ?_
    have r3_2:=(zbv q2 r3_1 (QaJ hg l3))
    have r3_3:=(Qaa r3_2 e3)
    have r3_4:=(zbq p4 r3_3 (Qag r3_2 l8))
    have r3_5:=(Qaa r3_4 e5)
    have r3_6:=(Qaa r3_5 e6)
    have r3_7:=(zbq p7 r3_6 (Qag r3_5 l11))
    have r3_8:=(Qaa r3_7 e8)
    have r3_9:=(zbq p9 r3_8 (Qag r3_2 l8))
    have r3_10:=(Qaa r3_9 e10)
    have r3_11:=(zb2 q11 r3_10 (Qax (Qag r3_9 l28) QaE))
    refine Qan g3 _ (ints .u8 (by16 (SS+s))) 84 r3_11 rfl kj (Qao 84 _ _ g3 84 _ _ r3_11 rfl kj kj (isz (n:=16) kj (izT (QaT _))) (eqsz (n:=16) (izT (qZ (n:=16))) (izT (QaT _))) (Qay _ _)) fun W12 p12 r3_12=>?_
    have x12:=zb0 xx2 p12 b3
    refine sgN hK37 <| wp_ret ?_
    repeat (first | with_reducible refine goR1 ?_ | with_reducible refine goR2 ?_)
    exact (show bodyPost _ _ _ .ret _ _ from ret1 (.agg (ints .u8 (by16 (SS+s)))) rfl (QaP g3 84 _ r3_12 kj kj (isz (n:=16) kj (izT (QaT _)))) ⟨by unfold tagV; rw [hfin],x12⟩)
 ·skip
  have hm0:m=0:=by have:=of_decide_eq_false c6; omega
  obtain ⟨SS,eSS⟩:∃ z,z=S:=⟨_,rfl⟩
  have hSS:SS%PP=QdL r t:=by rw [eSS,Qm2 (hm0▸hq)]; exact hSm
  have hSb:0≤SS∧SS<2041694201525630780780247644590609268736:=eSS▸hS
  have r1_1_n:=r1_1
  rw [←eSS] at r1_1_n
  refine wp_skip <| hK4 _ _ <| sgC fun K38 hK38=>sg 3 kj <| Qab (.agg (ints .u64 (nw3 (SS)))) 17 rfl kj (Qa0 138 _ g 6 143 _ _ _ r1_1_n rfl kj (Qam [ints .u64 (nw3 r),ints .u64 (nw3 s)] [ints .u64 (nw3 (SS))] [ints .u8 (pl),#[.int .i64 ((m:Nat):Int)]] 6 (by rw [Qac,Qac]; simp only [qS,cat,(izT (Qa3 _))]; rfl)) kj (isz (n:=3) kj (izT (Qa3 _)))) ?_
  refine Qar (ints .u64 ([0,0,0])) 138 3 rfl kj kj fun g39 W2 l39 e2 r39_2=>?_
  have x2:=zbu x1 e2
  have b39:=qT x1.size l39
  refine Qan g39 _ (ints .u64 (nw3 (SS))) 138 r39_2 rfl kj (Qao 138 _ _ g39 138 _ _ r39_2 rfl kj kj (isz (n:=3) kj (izT (Qa3 _))) (eqsz (n:=3) kj (izT (Qa3 _))) (Qay _ _)) fun W3 p3 r39_3=>?_
  have x3:=zb0 x2 p3 b39
  refine sgN hK38 <| wp_seq_k fun K40 hK40=>sgC fun K41 hK41=>Qab (.agg (ints .u64 (nw3 (SS)))) 18 rfl kj (Qap 138 _ g39 138 _ _ r39_3 rfl kj kj (isz (n:=3) kj (izT (Qa3 _)))) <| sg 1 kj <| Qau (.agg (ints .u64 (nw3 (SS+5)))) 80 #[.agg (ints .u64 (nw3 (SS))),.agg (ints .u64 (nw3 5))] 20 rfl kj kj ((Qhm SS 5 hSb.1 (by decide) (by omega) (by decide) (by omega)) _) fun W4 e4=>?_
  have x4:=zbu x3 e4
  refine Qar (ints .u64 ([0,0,0])) 138 4 rfl kj kj fun g42 W5 l42 e5 r42_5=>?_
  have x5:=zbu x4 e5
  refine Qan g42 _ (ints .u64 (nw3 (SS+5))) 138 r42_5 rfl kj (Qao 138 _ _ g42 138 _ _ r42_5 rfl kj kj (isz (n:=3) kj (izT (Qa3 _))) (eqsz (n:=3) kj (izT (Qa3 _))) (Qay _ _)) fun W6 p6 r42_6=>?_
  have x6:=zb0 x5 p6 (qT x4.size l42)
  refine sgN hK41 <| sgC fun K43 hK43=>sg 1 kj <| Qab (.int .u64 (nth (nw3 (SS+5)) 2)) 22 rfl kj (Qad 75 _ g42 2 138 _ (.int .u64 (nth (nw3 (SS+5)) 2)) _ r42_6 rfl kj (QaG _ _ _ (zal (by decide) (Qa3 _).symm)) kj) <| Qab (.bool (decide (1361129467683753853853498429727072845824≤SS+5))) 23 rfl kj (Qah (u:=.bool (decide ((nth (nw3 (SS+5)) 2)≥4))) kj (congrArg zau (geq4 SS hSb.1 hSb.2))) <| sgN hK43 <| Qa2 (t:=decide (1361129467683753853853498429727072845824≤SS+5)) kj (fun c44=>?_) (fun c44=>?_)
  ·skip
   have hbig:1361129467683753853853498429727072845824≤SS+5:=of_decide_eq_true c44
   have hfin:by16 (SS+5+s)=by16 (QdL r t+s):=by
    have e:SS+5+s=(QdL r t+s)+1361129467683753853853498429727072845824:=by rw [←hSS]; unfold PP; omega
    rw [e,Qio]
   refine Qae <| Qab (.agg (ints .u64 (nw3 (SS+5)))) 24 rfl kj (Qap 138 _ g42 138 _ _ r42_6 rfl kj kj (isz (n:=3) kj (izT (Qa3 _)))) ?_
   have r39_4:=(Qaa r39_3 e4)
   have r39_5:=(Qaa r39_4 e5)
   have r39_6:=(zbq p6 r39_5 (Qag r39_4 l42))
   refine Qan g39 _ (ints .u64 (nw3 (SS+5))) 138 r39_6 rfl kj (Qao 138 _ _ g39 138 _ _ r39_6 rfl kj kj (isz (n:=3) kj (izT (Qa3 _))) (eqsz (n:=3) (izT (Qa3 _)) (izT (Qa3 _))) (Qay _ _)) fun W7 p7 r39_7=>?_
   have x7:=zb0 x6 p7 b39
   refine Qal <| hK40 _ _ <| wp_seq_k fun K45 hK45=>QaL 6 [⟨none,[(3,none)]⟩,⟨none,[(0,none)]⟩,⟨none,[(26,some 1)]⟩,⟨none,[(27,some 2)]⟩,⟨none,[(28,some 3)]⟩,⟨none,[(25,some 0),(29,some 4)]⟩] kj kj fun F hF=>Qa7 (.agg (ints .u64 (nw3 (SS+5)))) kj kj (fun W hR=>(Qap 138 _ g39 138 _ _ (Qaa (Qaa r39_7 (Qaj _)) hR) rfl kj kj (isz (n:=3) kj (izT (Qa3 _))))) <| Qak (.pointer (some ⟨g,0,none⟩)) kj kj (fun _=>kj) <| Qak (.pointer (some ⟨g,0,none⟩)) kj kj (fun _=>kj) <| Qak (.pointer (some ⟨g,3,none⟩)) kj kj (fun _=>kj) ?_
   have r1_2:=(Qaa r1_1_n e2)
   have r1_3:=(zbq p3 r1_2 (Qag r1_1_n l39))
   have r1_4:=(Qaa r1_3 e4)
   have r1_5:=(Qaa r1_4 e5)
   have r1_6:=(zbq p6 r1_5 (Qag r1_4 l42))
   have r1_7:=(zbq p7 r1_6 (Qag r1_1_n l39))
   refine Qa7 (.agg (ints .u64 (nw3 s))) kj kj (fun W hR=>(Qa0 138 _ g 3 143 _ _ _ (Qaa (Qaa r1_7 (Qaj _)) hR) rfl kj (Qam [ints .u64 (nw3 r)] [ints .u64 (nw3 s)] [ints .u64 (nw3 (SS)),ints .u8 (pl),#[.int .i64 ((m:Nat):Int)]] 3 (izT (Qa3 _))) kj (isz (n:=3) kj (izT (Qa3 _))))) <| Qdl (.agg (ints .u64 (nw3 (SS+5+s)))) 80 #[.agg (ints .u64 (nw3 (SS+5))),.agg (ints .u64 (nw3 s))] kj kj (fun _=>kj) (fun W hR=>(Qhm (SS+5) s (by omega) hs.1 (by omega) (by omega) (by omega)) W) <| QaQ (hF _ kj fun W8 e8=>?_)
   simp only [ups,up,Kn.val,zap,zaq,zar,zas,zan,zao]
   clear hF
   have x8:=zbu x7 e8
   have r39_8:=(Qaa r39_7 e8)
   refine Qan g39 _ (ints .u64 (nw3 (SS+5+s))) 138 r39_8 rfl kj (Qao 138 _ _ g39 138 _ _ r39_8 rfl kj kj (isz (n:=3) kj (izT (Qa3 _))) (eqsz (n:=3) (izT (Qa3 _)) (izT (Qa3 _))) (Qay _ _)) fun W9 p9 r39_9=>?_
   have x9:=zb0 x8 p9 b39
   refine sgN hK45 <| sgC fun K46 hK46=>Qar (ints .u8 (zat 16 0)) 84 5 rfl kj kj fun g47 W10 l47 e10 r47_10=>?_
   have x10:=zbu x9 e10
   refine sgN hK46 <| wp_seq_k fun K48 hK48=>sgB kj <| wp_block <| QaF (fun (s3:Nat)=>[(2,.pointer (some ⟨g3,0,none⟩)),(3,.pointer (some ⟨g39,0,none⟩)),(5,.pointer (some ⟨g47,0,none⟩)),(31,.int .i64 ((s3:Nat):Int))]) (fun (s3:Nat) W=>(s3≤16)∧(W.heap[g47]? = some (.cells (ints .u8 (QbH (by16 (SS+5+s)) 16 s3)) 84))∧(Qaf [g47] W10 W)∧(ExtB g w W)) (fun (s3:Nat)=>16-s3) 0 ⟨kj,kj,kj,kj,trivial⟩ ⟨(zav _),(QaH r47_10 (Qcp _ 16)),(zb1 [g47] W10),x10⟩ fun s3 X3 V3 hI3=>?_
   obtain ⟨i,hs3⟩:∃ z,z=s3:=⟨_,rfl⟩
   subst hs3
   obtain ⟨hi,q47_3,kk3,xx3⟩:=hI3
   replace hi:i≤16:=hi
   replace q47_3:V3.heap[g47]? = some (.cells (ints .u8 (QbH (by16 (SS+5+s)) 16 i)) 84):=q47_3
   replace kk3:Qaf [g47] W10 V3:=kk3
   replace xx3:ExtB g w V3:=xx3
   have q11:=kk3
   refine sgB kj <| wp_seq_k fun K51 hK51=>Qa2 (t:=decide (((i:Nat):Int)<16)) kj (fun c52=>?_) (fun c52=>?_)
   ·skip
    have hlt32:i<16:=by have:=of_decide_eq_true c52; omega
    refine wp_skip <| hK51 _ _ <| wp_seq_k fun K53 hK53=>wp_block <| sgB kj <| Qae <| sg 2 kj <| Qab (.int .i64 ((i/8:Nat):Int)) 36 rfl kj (Qah (u:=.int .i64 (zaw.wrap (zax (((i:Nat):Int)) (8)))) kj (congrArg (zam .i64) (Qeq _ 8 (by omega)))) <| Qab (.pointer (some ⟨g39,i/8,none⟩)) 37 rfl kj (QaC _ _ _ .i64 (i/8) _ 3 75 rfl kj kj kj kj (by omega)) ?_
    have r39_10:=(Qaa r39_9 e10)
    refine Qab (.int .u64 (nth (nw3 (SS+5+s)) (i/8))) 38 rfl kj (Qad 75 _ g39 (i/8) 138 _ (.int .u64 (nth (nw3 (SS+5+s)) (i/8))) _ (zb2 q11 r39_10 (Qax (Qag r39_9 l47) QaE)) rfl kj (QaG _ _ _ (zal (by omega) (Qa3 _).symm)) kj) <| sg 1 kj <| Qab (.int .i64 ((i%8:Nat):Int)) 40 rfl kj (Qah (u:=.int .i64 (zay (((i:Nat):Int)) (8))) kj (congrArg (zam .i64) (Qc9 _ 8))) <| Qab (.int .i64 ((8*(i%8):Nat):Int)) 41 rfl kj (Qah (u:=.int .i64 (zaw.wrap (8*((i%8:Nat):Int)))) kj (congrArg (zam .i64) (i64n _ _ (by omega) (by omega)))) <| Qab (.int .u64 (nth (nw3 (SS+5+s)) (i/8)/p256 (i%8))) 42 rfl kj (QaM .shr _ _ _ _ .u64 .i64 _ _ _ rfl kj kj (QbW _ _ _ _ _ _ (by omega) (shr8 _ (i%8) _ rfl (by omega)))) <| Qab (.int .u8 (nth (by16 (SS+5+s)) i)) 43 rfl kj (Qah (u:=.int .u8 (zae.wrap (nth (nw3 (SS+5+s)) (i/8)/p256 (i%8)))) kj (congrArg (zam .u8) (out_byte _ i hlt32))) <| Qab (.pointer (some ⟨g47,i,none⟩)) 44 rfl kj (QaC _ _ _ .i64 (i) _ 16 5 rfl kj kj kj kj (by omega)) <| Qan g47 _ (ints .u8 ((QbH (by16 (SS+5+s)) 16 i).set i (nth (by16 (SS+5+s)) i))) 84 q47_3 rfl kj (Qa1 5 _ _ g47 i 84 _ _ q47_3 rfl kj kj kj (zal (by omega) (QcB _ 16 _ (QaT _) hi).symm)) fun W12 p12 r47_12=>?_
    have x12:=zb0 xx3 p12 (qT x9.size l47)
    refine Qal <| hK53 _ _ <| Qae <| Qab (.int .i64 ((i+1:Nat):Int)) 45 rfl kj (Qah (u:=.int .i64 (zaw.wrap (((i:Nat):Int)+1))) kj (congrArg (zam .i64) (i64n _ _ (by omega) (by omega)))) <| sg 1 kj <| Qal ?_
    repeat (first | with_reducible refine goX1 ?_ | with_reducible refine goX2 ?_ | with_reducible refine goX3 ?_)
    exact Qa5 (i+1) ⟨kj,kj,kj,kj,trivial⟩ ⟨(show i+1≤16 by omega),(QaH r47_12 (Qcq _ 16 i (QaT _) hlt32)),(zb4 q11 p12 (.inl (by simp))),x12⟩ (by show 16-(i+1)<16-i; omega)
   ·skip
    have heq32:i=16:=by have:=of_decide_eq_false c52; omega
    subst heq32
    have r47_11_55:V3.heap[g47]? = some (.cells (ints .u8 (by16 (SS+5+s))) 84):=QaH q47_3 (Qcb _ 16 (QaT _))
    refine wp_exit <| hK48 _ _ <| sgC fun K56 hK56=>Qab (.agg (ints .u8 (by16 (SS+5+s)))) 46 rfl kj (Qap 84 _ g47 84 _ _ r47_11_55 rfl kj kj (isz (n:=16) kj (izT (QaT _)))) ?_
    have r3_2:=(Qaa r3_1 e2)
    have r3_3:=(zbq p3 r3_2 (Qag r3_1 l39))
    have r3_4:=(Qaa r3_3 e4)
    have r3_5:=(Qaa r3_4 e5)
    have r3_6:=(zbq p6 r3_5 (Qag r3_4 l42))
    have r3_7:=(zbq p7 r3_6 (Qag r3_1 l39))
    have r3_8:=(Qaa r3_7 e8)
    have r3_9:=(zbq p9 r3_8 (Qag r3_1 l39))
    have r3_10:=(Qaa r3_9 e10)
    have r3_11:=(zb2 q11 r3_10 (Qax (Qag r3_9 l47) QaE))
    refine Qan g3 _ (ints .u8 (by16 (SS+5+s))) 84 r3_11 rfl kj (Qao 84 _ _ g3 84 _ _ r3_11 rfl kj kj (isz (n:=16) kj (izT (QaT _))) (eqsz (n:=16) (izT (qZ (n:=16))) (izT (QaT _))) (Qay _ _)) fun W12 p12 r3_12=>?_
    have x12:=zb0 xx3 p12 b3
    refine sgN hK56 <| wp_ret ?_
    repeat (first | with_reducible refine goR1 ?_ | with_reducible refine goR2 ?_)
    exact (show bodyPost _ _ _ .ret _ _ from ret1 (.agg (ints .u8 (by16 (SS+5+s)))) rfl (QaP g3 84 _ r3_12 kj kj (isz (n:=16) kj (izT (QaT _)))) ⟨by unfold tagV; rw [hfin],x12⟩)
  ·skip
   have hbig:¬ 1361129467683753853853498429727072845824≤SS+5:=of_decide_eq_false c44
   have hfin:by16 (SS+s)=by16 (QdL r t+s):=by
    have e:SS+s=QdL r t+s:=by rw [←hSS]; unfold PP; omega
    rw [e]
   refine wp_skip <| hK40 _ _ <| wp_seq_k fun K57 hK57=>QaL 6 [⟨none,[(3,none)]⟩,⟨none,[(0,none)]⟩,⟨none,[(26,some 1)]⟩,⟨none,[(27,some 2)]⟩,⟨none,[(28,some 3)]⟩,⟨none,[(25,some 0),(29,some 4)]⟩] kj kj fun F hF=>?_
   have r39_4:=(Qaa r39_3 e4)
   have r39_5:=(Qaa r39_4 e5)
   have r39_6:=(zbq p6 r39_5 (Qag r39_4 l42))
   refine Qa7 (.agg (ints .u64 (nw3 (SS)))) kj kj (fun W hR=>(Qap 138 _ g39 138 _ _ (Qaa (Qaa r39_6 (Qaj _)) hR) rfl kj kj (isz (n:=3) kj (izT (Qa3 _))))) <| Qak (.pointer (some ⟨g,0,none⟩)) kj kj (fun _=>kj) <| Qak (.pointer (some ⟨g,0,none⟩)) kj kj (fun _=>kj) <| Qak (.pointer (some ⟨g,3,none⟩)) kj kj (fun _=>kj) ?_
   have r1_2:=(Qaa r1_1_n e2)
   have r1_3:=(zbq p3 r1_2 (Qag r1_1_n l39))
   have r1_4:=(Qaa r1_3 e4)
   have r1_5:=(Qaa r1_4 e5)
   have r1_6:=(zbq p6 r1_5 (Qag r1_4 l42))
   refine Qa7 (.agg (ints .u64 (nw3 s))) kj kj (fun W hR=>(Qa0 138 _ g 3 143 _ _ _ (Qaa (Qaa r1_6 (Qaj _)) hR) rfl kj (Qam [ints .u64 (nw3 r)] [ints .u64 (nw3 s)] [ints .u64 (nw3 (SS)),ints .u8 (pl),#[.int .i64 ((m:Nat):Int)]] 3 (izT (Qa3 _))) kj (isz (n:=3) kj (izT (Qa3 _))))) <| Qdl (.agg (ints .u64 (nw3 (SS+s)))) 80 #[.agg (ints .u64 (nw3 (SS))),.agg (ints .u64 (nw3 s))] kj kj (fun _=>kj) (fun W hR=>(Qhm (SS) s (by omega) hs.1 (by omega) (by omega) (by omega)) W) <| QaQ (hF _ kj fun W7 e7=>?_)
   simp only [ups,up,Kn.val,zap,zaq,zar,zas,zan,zao]
   clear hF
   have x7:=zbu x6 e7
   have r39_7:=(Qaa r39_6 e7)
   refine Qan g39 _ (ints .u64 (nw3 (SS+s))) 138 r39_7 rfl kj (Qao 138 _ _ g39 138 _ _ r39_7 rfl kj kj (isz (n:=3) kj (izT (Qa3 _))) (eqsz (n:=3) (izT (Qa3 _)) (izT (Qa3 _))) (Qay _ _)) fun W8 p8 r39_8=>?_
   have x8:=zb0 x7 p8 b39
   refine sgN hK57 <| sgC fun K58 hK58=>Qar (ints .u8 (zat 16 0)) 84 5 rfl kj kj fun g59 W9 l59 e9 r59_9=>?_
   have x9:=zbu x8 e9
   refine sgN hK58 <| wp_seq_k fun K60 hK60=>sgB kj <| wp_block <| QaF (fun (s4:Nat)=>[(2,.pointer (some ⟨g3,0,none⟩)),(3,.pointer (some ⟨g39,0,none⟩)),(5,.pointer (some ⟨g59,0,none⟩)),(31,.int .i64 ((s4:Nat):Int))]) (fun (s4:Nat) W=>(s4≤16)∧(W.heap[g59]? = some (.cells (ints .u8 (QbH (by16 (SS+s)) 16 s4)) 84))∧(Qaf [g59] W9 W)∧(ExtB g w W)) (fun (s4:Nat)=>16-s4) 0 ⟨kj,kj,kj,kj,trivial⟩ ⟨(zav _),(QaH r59_9 (Qcp _ 16)),(zb1 [g59] W9),x9⟩ fun s4 X4 V4 hI4=>?_
   obtain ⟨i,hs4⟩:∃ z,z=s4:=⟨_,rfl⟩
   subst hs4
   obtain ⟨hi,q59_4,kk4,xx4⟩:=hI4
   replace hi:i≤16:=hi
   replace q59_4:V4.heap[g59]? = some (.cells (ints .u8 (QbH (by16 (SS+s)) 16 i)) 84):=q59_4
   replace kk4:Qaf [g59] W9 V4:=kk4
   replace xx4:ExtB g w V4:=xx4
   have q10:=kk4
   refine sgB kj <| wp_seq_k fun K63 hK63=>Qa2 (t:=decide (((i:Nat):Int)<16)) kj (fun c64=>?_) (fun c64=>?_)
   ·skip
    have hlt32:i<16:=by have:=of_decide_eq_true c64; omega
    refine wp_skip <| hK63 _ _ <| wp_seq_k fun K65 hK65=>wp_block <| sgB kj <| Qae <| sg 2 kj <| Qab (.int .i64 ((i/8:Nat):Int)) 36 rfl kj (Qah (u:=.int .i64 (zaw.wrap (zax (((i:Nat):Int)) (8)))) kj (congrArg (zam .i64) (Qeq _ 8 (by omega)))) <| Qab (.pointer (some ⟨g39,i/8,none⟩)) 37 rfl kj (QaC _ _ _ .i64 (i/8) _ 3 75 rfl kj kj kj kj (by omega)) ?_
    have r39_9:=(Qaa r39_8 e9)
    have r39_10:=(zb2 q10 r39_9 (Qax (Qag r39_8 l59) QaE))
    refine Qab (.int .u64 (nth (nw3 (SS+s)) (i/8))) 38 rfl kj (Qad 75 _ g39 (i/8) 138 _ (.int .u64 (nth (nw3 (SS+s)) (i/8))) _ r39_10 rfl kj (QaG _ _ _ (zal (by omega) (Qa3 _).symm)) kj) <| sg 1 kj <| Qab (.int .i64 ((i%8:Nat):Int)) 40 rfl kj (Qah (u:=.int .i64 (zay (((i:Nat):Int)) (8))) kj (congrArg (zam .i64) (Qc9 _ 8))) <| Qab (.int .i64 ((8*(i%8):Nat):Int)) 41 rfl kj (Qah (u:=.int .i64 (zaw.wrap (8*((i%8:Nat):Int)))) kj (congrArg (zam .i64) (i64n _ _ (by omega) (by omega)))) <| Qab (.int .u64 (nth (nw3 (SS+s)) (i/8)/p256 (i%8))) 42 rfl kj (QaM .shr _ _ _ _ .u64 .i64 _ _ _ rfl kj kj (QbW _ _ _ _ _ _ (by omega) (shr8 _ (i%8) _ rfl (by omega)))) <| Qab (.int .u8 (nth (by16 (SS+s)) i)) 43 rfl kj (Qah (u:=.int .u8 (zae.wrap (nth (nw3 (SS+s)) (i/8)/p256 (i%8)))) kj (congrArg (zam .u8) (out_byte _ i hlt32))) <| Qab (.pointer (some ⟨g59,i,none⟩)) 44 rfl kj (QaC _ _ _ .i64 (i) _ 16 5 rfl kj kj kj kj (by omega)) <| Qan g59 _ (ints .u8 ((QbH (by16 (SS+s)) 16 i).set i (nth (by16 (SS+s)) i))) 84 q59_4 rfl kj (Qa1 5 _ _ g59 i 84 _ _ q59_4 rfl kj kj kj (zal (by omega) (QcB _ 16 _ (QaT _) hi).symm)) fun W11 p11 r59_11=>?_
    have x11:=zb0 xx4 p11 (qT x8.size l59)
    refine Qal <| hK65 _ _ <| Qae <| Qab (.int .i64 ((i+1:Nat):Int)) 45 rfl kj (Qah (u:=.int .i64 (zaw.wrap (((i:Nat):Int)+1))) kj (congrArg (zam .i64) (i64n _ _ (by omega) (by omega)))) <| sg 1 kj <| Qal ?_
    repeat (first | with_reducible refine goX1 ?_ | with_reducible refine goX2 ?_ | with_reducible refine goX3 ?_)
    exact Qa5 (i+1) ⟨kj,kj,kj,kj,trivial⟩ ⟨(show i+1≤16 by omega),(QaH r59_11 (Qcq _ 16 i (QaT _) hlt32)),(zb4 q10 p11 (.inl (by simp))),x11⟩ (by show 16-(i+1)<16-i; omega)
   ·skip
    have heq32:i=16:=by have:=of_decide_eq_false c64; omega
    subst heq32
    have r59_10_67:V4.heap[g59]? = some (.cells (ints .u8 (by16 (SS+s))) 84):=QaH q59_4 (Qcb _ 16 (QaT _))
    refine wp_exit <| hK60 _ _ <| sgC fun K68 hK68=>Qab (.agg (ints .u8 (by16 (SS+s)))) 46 rfl kj (Qap 84 _ g59 84 _ _ r59_10_67 rfl kj kj (isz (n:=16) kj (izT (QaT _)))) ?_
    have r3_2:=(Qaa r3_1 e2)
    have r3_3:=(zbq p3 r3_2 (Qag r3_1 l39))
    have r3_4:=(Qaa r3_3 e4)
    have r3_5:=(Qaa r3_4 e5)
    have r3_6:=(zbq p6 r3_5 (Qag r3_4 l42))
    have r3_7:=(Qaa r3_6 e7)
    have r3_8:=(zbq p8 r3_7 (Qag r3_1 l39))
    have r3_9:=(Qaa r3_8 e9)
    have r3_10:=(zb2 q10 r3_9 (Qax (Qag r3_8 l59) QaE))
    refine Qan g3 _ (ints .u8 (by16 (SS+s))) 84 r3_10 rfl kj (Qao 84 _ _ g3 84 _ _ r3_10 rfl kj kj (isz (n:=16) kj (izT (QaT _))) (eqsz (n:=16) (izT (qZ (n:=16))) (izT (QaT _))) (Qay _ _)) fun W11 p11 r3_11=>?_
    have x11:=zb0 xx4 p11 b3
    refine sgN hK68 <| wp_ret ?_
    repeat (first | with_reducible refine goR1 ?_ | with_reducible refine goR2 ?_)
    exact (show bodyPost _ _ _ .ret _ _ from ret1 (.agg (ints .u8 (by16 (SS+s)))) rfl (QaP g3 84 _ r3_11 kj kj (isz (n:=16) kj (izT (QaT _)))) ⟨by unfold tagV; rw [hfin],x11⟩)
end Ae
end
section
namespace Ae
open Go Go.RowKit
open Rely Auto Own Sha
open Sha Cha
def by8 (n : Int):List Int:=(zaz 8).map fun i=>n/p256 i%256
theorem Qdz (n : Int):(by8 n).length=8:=by simp [by8]
theorem QgW (n : Int):Qai (by8 n):=fun x hx=>by
  unfold by8 at hx
  obtain ⟨i,-,rfl⟩:=za0.1 hx
  omega
theorem Qnk (n : Int) (i:Nat) (h:i<8):nth (by8 n) i=n/p256 i%256:=by
  unfold by8 nth
  rw [za1,za2,za3 h]
  rfl
theorem Qht (n : Int) (i:Nat) (h:i<8):zae.wrap (n/p256 i)=nth (by8 n) i:=by
  have h3:∀ z:Int,zae.wrap z=z%256:=fun _=>rfl
  rw [h3,Qnk n i h]
theorem or8 (x y:Int):bits .or .u8 x y=(((za4 8 x)|||(za4 8 y)).toNat:Int):=by
  have h:bits .or .u8 x y=zae.wrap (((za4 8 x)|||(za4 8 y)).toNat:Int):=rfl
  have h3:∀ z:Int,zae.wrap z=z%256:=fun _=>rfl
  rw [h,h3]
  have:=((za4 8 x)|||(za4 8 y)).isLt
  omega
theorem QnJ (x y:Int):0≤bits .or .u8 x y∧bits .or .u8 x y<256:=by
  rw [or8]
  have:=((za4 8 x)|||(za4 8 y)).isLt
  omega
theorem Qmp (x y:Int):0≤bits .xor .u8 x y∧bits .xor .u8 x y<256:=by
  rw [Qk8]
  have:=((za4 8 x)^^^(za4 8 y)).isLt
  omega
theorem Qlk (x y:Int) (hx:0≤x∧x<256) (hy:0≤y∧y<256):bits .or .u8 x y=0↔x=0∧y=0:=by
  rw [or8,BitVec.toNat_or,za5,za5]
  have h:=@Nat.or_eq_zero_iff (x%((2^8:Nat):Int)).toNat (y%((2^8:Nat):Int)).toNat
  omega
theorem Qgh (y : Int):bits .xor .u8 y y=0:=by rw [Qk8,BitVec.xor_self]; rfl
theorem Qji (x y:Int) (hx:0≤x∧x≤255) (hy:0≤y∧y≤255):bits .xor .u8 x y=0↔x=y:=by
  constructor
  · intro h
    have h1:=Qeu x y hx.1 hx.2
    have h2:=Qeu y y hy.1 hy.2
    rw [Qgh] at h2
    rw [h] at h1
    exact h1.symm.trans h2
  · intro h; subst h; exact Qgh x
theorem Qmu (xs ys:List Int) (i:Nat) (h1:i<xs.length) (h2:i<ys.length):xs.take (i+1)=ys.take (i+1)↔xs.take i=ys.take i∧nth xs i=nth ys i:=by
  rw [QeV xs i h1,QeV ys i h2]
  constructor
  · intro h
    have h3:=List.append_inj h (by rw [zah,zah]; omega)
    exact ⟨h3.1,by simpa using h3.2⟩
  · rintro ⟨a,b⟩; rw [a,b]
theorem Qjz {xs ys:List Int} {i:Nat} {d:Int} (h1:i<xs.length) (h2:i<ys.length) (hx:Qai xs) (hy:Qai ys) (hd:0≤d∧d<256) (h:d=0↔xs.take i=ys.take i) :
    bits .or .u8 d (bits .xor .u8 (nth xs i) (nth ys i))=0↔xs.take (i+1)=ys.take (i+1):=by
  have bx:=Qbj hx i
  have by_:=Qbj hy i
  rw [Qlk _ _ hd (Qmp _ _),Qji _ _ (by omega) (by omega),Qmu xs ys i h1 h2,h]
theorem Qnm (d : Int) (p:Prop) [Decidable p] (h:d=0↔p):(d==0)=decide p:=by
  by_cases e:d=0
  · rw [decide_eq_true (h.1 e),e]; rfl
  · rw [decide_eq_false (fun hp=>e (h.2 hp))]; exact beq_eq_false_iff_ne.2 e
theorem QjX (n : Nat) (w:World):Calls Tryd.prog 47 #[.int .i64 ((n:Nat):Int)] w (QbF w (OwnN .u8 5 w.heap.size (by8 (n:Int)))):=by
 refine enter 21 [(0,.int .i64 ((n:Nat):Int))] Tryd.func47 rfl rfl kj rfl <| sgB kj <| sgC fun K2 hK2=>QaU (ints .u8 (zat 8 0)) 5 8 5 rfl kj (Qds 33 _ _ .i64 .i64 8 5 rfl kj kj kj (.inr kj) (by decide)) fun g3 W1 l3 e1 r3_1=>?_
 have b3:=qT (zbo w).size l3
 refine sg 1 kj <| sgN hK2 <| wp_seq_k fun K4 hK4=>sgB kj <| wp_block <| QaF (fun (s1:Nat)=>[(0,.int .i64 ((n:Nat):Int)),(2,.slice none 0 0),(3,.slice (some ⟨g3,0,none⟩) 8 8),(6,.slice (some ⟨g3,0,none⟩) 8 8),(7,.int .i64 8),(8,.int .i64 ((s1:Nat):Int))]) (fun (s1:Nat) W=>(s1≤8)∧(W.heap[g3]? = some (.cells (ints .u8 (QbH (by8 (n:Int)) 8 s1)) 5))∧(Qaf [g3] W1 W)∧(Ext w W)) (fun (s1:Nat)=>8-s1) 0 ⟨kj,kj,kj,kj,kj,kj,trivial⟩ ⟨(zav _),(QaH r3_1 (Qcp _ 8)),(zb1 [g3] W1),(zbs (zbo w) e1)⟩ fun s1 X1 V1 hI1=>?_
 obtain ⟨i,hs1⟩:∃ z,z=s1:=⟨_,rfl⟩
 subst hs1
 obtain ⟨hi,q3_1,kk1,xx1⟩:=hI1
 replace hi:i≤8:=hi
 replace q3_1:V1.heap[g3]? = some (.cells (ints .u8 (QbH (by8 (n:Int)) 8 i)) 5):=q3_1
 replace kk1:Qaf [g3] W1 V1:=kk1
 replace xx1:Ext w V1:=xx1
 have q2:=kk1
 refine sgB kj <| wp_seq_k fun K7 hK7=>Qa2 (t:=decide (((i:Nat):Int)<8)) kj (fun c8=>?_) (fun c8=>?_)
 ·skip
  have hlt9:i<8:=by have:=of_decide_eq_true c8; omega
  refine wp_skip <| hK7 _ _ <| wp_seq_k fun K9 hK9=>wp_block <| sgB kj <| Qae <| sg 4 kj <| Qab (.int .i64 ((8*i:Nat):Int)) 15 rfl kj (Qah (u:=.int .i64 (zaw.wrap (8*((i:Nat):Int)))) kj (congrArg (zam .i64) (i64n _ _ (by omega) (by omega)))) <| Qab (.int .i64 ((n:Int)/p256 i)) 16 rfl kj (QaM .shr _ _ _ _ .i64 .i64 _ _ _ rfl kj kj (QbW _ _ _ _ _ _ (by omega) (shr8 _ i _ rfl (by omega)))) <| Qab (.int .u8 (nth (by8 (n:Int)) i)) 17 rfl kj (Qah (u:=.int .u8 (zae.wrap ((n:Int)/p256 i))) kj (congrArg (zam .u8) (Qht _ i hlt9))) ?_
  refine Qab (.pointer (some ⟨g3,i,none⟩)) 18 rfl kj (Qbf 33 _ _ .i64 (i) g3 8 8 5 rfl kj kj kj kj (by omega)) <| Qan g3 _ (ints .u8 ((QbH (by8 (n:Int)) 8 i).set i (nth (by8 (n:Int)) i))) 5 q3_1 rfl kj (Qa1 5 _ _ g3 i 5 _ _ q3_1 rfl kj kj kj (zal (by omega) (QcB _ 8 _ (Qdz _) hi).symm)) fun W3 p3 r3_3=>Qal <| hK9 _ _ <| Qae <| Qab (.int .i64 ((i+1:Nat):Int)) 19 rfl kj (Qah (u:=.int .i64 (zaw.wrap (((i:Nat):Int)+1))) kj (congrArg (zam .i64) (i64n _ _ (by omega) (by omega)))) <| sg 1 kj <| Qal ?_
  repeat (first | with_reducible refine goX1 ?_ | with_reducible refine goX2 ?_ | with_reducible refine goX3 ?_)
  exact Qa5 (i+1) ⟨kj,kj,kj,kj,kj,kj,trivial⟩ ⟨(show i+1≤8 by omega),(QaH r3_3 (Qcq _ 8 i (Qdz _) hlt9)),(zb4 q2 p3 (.inl (by simp))),(zbr p3 xx1 b3)⟩ (by show 8-(i+1)<8-i; omega)
 ·skip
  have heq9:i=8:=by have:=of_decide_eq_false c8; omega
  subst heq9
  have r3_2_11:V1.heap[g3]? = some (.cells (ints .u8 (by8 (n:Int))) 5):=QaH q3_1 (Qcb _ 8 (Qdz _))
  refine wp_exit <| hK4 _ _ <| sgB kj <| wp_ret ?_
  repeat (first | with_reducible refine goR1 ?_ | with_reducible refine goR2 ?_)
  exact (show bodyPost _ _ _ .ret _ _ from ret1 (.slice (some ⟨g3,0,none⟩) 8 8) rfl (Qaz kj) ⟨_,rfl,xx1,Qcu (xs:=by8 (n:Int)) (Qdz _) b3 r3_2_11 (by decide)⟩)
theorem Qnt (xs : List Int) (v:Value) (B:Nat) (w:World) (h:RdK .u8 B xs v w):Calls Tryd.prog 49 #[v] w (QbF w (OwnN .u8 5 w.heap.size (zat ((16-xs.length%16)%16) 0))):=by
  obtain ⟨a_x,c_x,rfl,-⟩:=id h
  refine enter 9 [(0,.slice a_x xs.length c_x)] Tryd.func49 rfl rfl kj rfl <| sgB kj <| sgC fun K2 hK2=>sg 2 kj <| Qab (.int .i64 ((xs.length%16:Nat):Int)) 5 rfl kj (Qah (u:=.int .i64 (zay (((xs.length:Nat):Int)) (16))) kj (congrArg (zam .i64) (Qc9 _ 16))) <| Qab (.int .i64 ((16-(xs.length%16):Nat):Int)) 6 rfl kj (Qah (u:=.int .i64 (zaw.wrap (16-((xs.length%16:Nat):Int)))) kj (congrArg (zam .i64) (i64n _ _ (by omega) (by omega)))) <| Qab (.int .i64 (((16-(xs.length%16))%16:Nat):Int)) 7 rfl kj (Qah (u:=.int .i64 (zay (((16-(xs.length%16):Nat):Int)) (16))) kj (congrArg (zam .i64) (Qc9 _ 16))) <| QaU (ints .u8 (zat ((16-(xs.length%16))%16) 0)) 5 ((16-(xs.length%16))%16) 8 rfl kj (Qds 33 _ _ .i64 .i64 ((16-(xs.length%16))%16) 5 rfl kj kj kj (.inr kj) (by omega)) fun g3 W1 l3 e1 r3_1=>sg 1 kj <| sgN hK2 ?_
  refine wp_ret ?_
  repeat (first | with_reducible refine goR1 ?_ | with_reducible refine goR2 ?_)
  exact (show bodyPost _ _ _ .ret _ _ from ret1 (.slice (some ⟨g3,0,none⟩) ((16-(xs.length%16))%16) ((16-(xs.length%16))%16)) rfl (Qaz kj) ⟨_,rfl,(zbs (zbo w) e1),Qcu (qZ ..) (qT (zbo w).size l3) r3_1 (by rw [maxLen]; omega)⟩)
theorem QnD (xs ys:List Int) (v v2:Value) (B B2:Nat) (w:World) (hx:RdK .u8 B xs v w) (hy:RdK .u8 B2 ys v2 w) (hxb:Qai xs) (hyb:Qai ys) (hl:ys.length=xs.length) (hxl:xs.length≤2000000):Calls Tryd.prog 39 #[v,v2] w (Ret w (.bool (decide (xs=ys)))):=by
 obtain ⟨a_x,c_x,rfl,-⟩:=id hx
 obtain ⟨a_y,c_y,rfl,-⟩:=id hy
 refine enter 26 [(0,.slice a_x xs.length c_x),(1,.slice a_y ys.length c_y)] Tryd.func39 rfl rfl kj rfl <| sgB kj <| sgB kj <| wp_seq_k fun K3 hK3=>sgB kj <| wp_block <| QaF (fun (s1:Nat×Int)=>[(0,.slice a_x xs.length c_x),(1,.slice a_y ys.length c_y),(4,.bool false),(5,.int .u8 (s1.2)),(7,.slice a_x xs.length c_x),(8,.int .i64 ((xs.length:Nat):Int)),(9,.int .i64 ((s1.1:Nat):Int))]) (fun (s1:Nat×Int) W=>(s1.1≤xs.length)∧(0≤s1.2∧s1.2<256)∧(s1.2=0↔xs.take s1.1=ys.take s1.1)∧(Ext w W)∧(Ext w W)) (fun (s1:Nat×Int)=>xs.length-s1.1) (0,0) ⟨kj,kj,kj,kj,kj,kj,kj,trivial⟩ ⟨(zav _),⟨by decide,by decide⟩,(by simp),(zbo w),(zbo w)⟩ fun s1 X1 V1 hI1=>?_
 obtain ⟨i,d⟩:=s1
 obtain ⟨hi,hdb,hd,kk1,xx1⟩:=hI1
 replace hi:i≤xs.length:=hi
 replace hdb:0≤d∧d<256:=hdb
 replace hd:d=0↔xs.take i=ys.take i:=hd
 replace kk1:Ext w V1:=kk1
 replace xx1:Ext w V1:=xx1
 have e1:=kk1
 refine sgB kj <| wp_seq_k fun K6 hK6=>Qa2 (t:=decide (((i:Nat):Int)<((xs.length:Nat):Int))) kj (fun c7=>?_) (fun c7=>?_)
 ·skip
  have hlt:i<xs.length:=by have:=of_decide_eq_true c7; omega
  obtain ⟨grx8,orx8,harx8,-,hlrx8,hcrx8⟩:=Qf0 (zby hx xx1) (by omega)
  obtain ⟨gry9,ory9,hary9,-,hlry9,hcry9⟩:=Qf0 (zby hy xx1) (by omega)
  refine wp_skip <| hK6 _ _ <| wp_seq_k fun K10 hK10=>wp_block <| sgB kj <| Qbg 10 [⟨none,[(5,none)]⟩,⟨none,[(0,none)]⟩,⟨none,[(6,none)]⟩,⟨none,[(13,some 1),(14,some 2)]⟩,⟨none,[(15,some 3)]⟩,⟨none,[(1,none)]⟩,⟨none,[(6,none)]⟩,⟨none,[(17,some 5),(18,some 6)]⟩,⟨none,[(19,some 7)]⟩,⟨none,[(16,some 4),(20,some 8)]⟩] kj kj fun F hF=>Qa8 (Qas _) (.int .u8 (d)) kj kj (fun _=>kj) <| Qa8 (Qas _) (.slice a_x xs.length c_x) kj kj (fun _=>kj) <| Qa8 (Qas _) (.int .i64 ((i:Nat):Int)) kj kj (fun _=>kj) <| Qa8 (Qas _) (.pointer (some ⟨grx8,orx8+i,none⟩)) kj kj (fun W=>(Qcn 33 _ _ .i64 i grx8 orx8 xs.length c_x 5 a_x _ harx8 rfl rfl kj kj kj kj (zal (show i<(xs).length by omega) (rfl:(xs).length=(xs).length).symm))) ?_
  refine Qbc (Qas _) (.int .u8 (nth (xs) (i))) kj kj (fun W hR=>(Qbi 5 _ _ (.int .u8 (nth (xs) (i))) ((Below.cell (zbp (Qaj _) hR) hlrx8).trans (hcrx8 i (zal (show i<(xs).length by omega) (rfl:(xs).length=(xs).length).symm))) rfl kj kj)) <| Qa8 (Qas _) (.slice a_y ys.length c_y) kj kj (fun _=>kj) <| Qa8 (Qas _) (.int .i64 ((i:Nat):Int)) kj kj (fun _=>kj) <| Qa8 (Qas _) (.pointer (some ⟨gry9,ory9+i,none⟩)) kj kj (fun W=>(Qcn 33 _ _ .i64 i gry9 ory9 ys.length c_y 5 a_y _ hary9 rfl rfl kj kj kj kj (zal (show i<(ys).length by omega) (rfl:(ys).length=(ys).length).symm))) <| Qbc (Qas _) (.int .u8 (nth (ys) (i))) kj kj (fun W hR=>(Qbi 5 _ _ (.int .u8 (nth (ys) (i))) ((Below.cell (zbp (Qaj _) hR) hlry9).trans (hcry9 i (zal (show i<(ys).length by omega) (rfl:(ys).length=(ys).length).symm))) rfl kj kj)) <| Qa8 (Qas _) (.int .u8 (bits .xor .u8 ((nth (xs) (i))) ((nth (ys) (i))))) kj kj (fun _=>kj) <| QcO (hF _ fun W2 e2=>?_)
  simp only [zan,zao,zap,zaq,zar,zas,finE,up]
  clear hF
  refine sg 2 kj <| Qal <| hK10 _ _ <| Qae <| Qab (.int .i64 ((i+1:Nat):Int)) 23 rfl kj (Qah (u:=.int .i64 (zaw.wrap (((i:Nat):Int)+1))) kj (congrArg (zam .i64) (i64n _ _ (by omega) (by omega)))) <| sg 1 kj <| Qal ?_
  repeat (first | with_reducible refine goX1 ?_ | with_reducible refine goX2 ?_ | with_reducible refine goX3 ?_)
  exact Qa5 ((i+1),(bits .or .u8 (d) ((bits .xor .u8 ((nth (xs) (i))) ((nth (ys) (i))))))) ⟨kj,kj,kj,kj,kj,kj,kj,trivial⟩ ⟨(by omega),(QnJ _ _),(Qjz hlt (by omega) hxb hyb hdb hd),(zbp e1 e2),(zbs xx1 e2)⟩ (by show xs.length-(i+1)<xs.length-i; omega)
 ·skip
  have hie:i=xs.length:=by have:=of_decide_eq_false c7; omega
  have hall:d=0↔xs=ys:=by rw [hie,za6,zab (by omega)] at hd; exact hd
  refine wp_exit <| hK3 _ _ <| sgC fun K12 hK12=>sg 1 kj <| Qab (.bool (decide (xs=ys))) 25 rfl kj (Qah (u:=.bool ((d==0))) kj (congrArg zau (Qnm _ _ hall))) <| sg 1 kj <| sgN hK12 <| wp_ret ?_
  repeat (first | with_reducible refine goR1 ?_ | with_reducible refine goR2 ?_)
  exact (show bodyPost _ _ _ .ret _ _ from ret1 (.bool (decide (xs=ys))) rfl (Qaz kj) ⟨rfl,xx1⟩)
set_option maxRecDepth 100000 in
theorem QnY (key y0 y1 y2 y3 y4:List Int) (v0 v1 v2 v3 v4:Value) (gp B:Nat) (w:World) (hkl:key.length=32) (hkb:Qai key) (hB:B≤w.heap.size) (hy0:RdK .u8 B y0 v0 w) (hb0:Qai y0) (hl0:y0.length≤3000000) (hy1:RdK .u8 B y1 v1 w) (hb1:Qai y1) (hl1:y1.length≤3000000) (hy2:RdK .u8 B y2 v2 w) (hb2:Qai y2) (hl2:y2.length≤3000000) (hy3:RdK .u8 B y3 v3 w) (hb3:Qai y3) (hl3:y3.length≤3000000) (hy4:RdK .u8 B y4 v4 w) (hb4:Qai y4) (hl4:y4.length≤3000000) (hp0:w.heap[gp]? = some (.cells #[v0,v1,v2,v3,v4] 33)) :
    Calls Tryd.prog 48 #[.agg (ints .u8 key),.slice (some ⟨gp,0,none⟩) 5 5] w (Ret w (.agg (ints .u8 (tagV (rOf key) (sOf key) (y0++y1++y2++y3++y4))))):=by
  obtain ⟨a_y0,c_y0,rfl,-⟩:=id hy0
  obtain ⟨a_y1,c_y1,rfl,-⟩:=id hy1
  obtain ⟨a_y2,c_y2,rfl,-⟩:=id hy2
  obtain ⟨a_y3,c_y3,rfl,-⟩:=id hy3
  obtain ⟨a_y4,c_y4,rfl,-⟩:=id hy4
  have hp:w.heap[gp]? = some (.cells (cat [#[.slice a_y0 y0.length c_y0],#[.slice a_y1 y1.length c_y1],#[.slice a_y2 y2.length c_y2],#[.slice a_y3 y3.length c_y3],#[.slice a_y4 y4.length c_y4]]) 33):=hp0
  refine enter 22 [(0,.agg (ints .u8 (key))),(1,.slice (some ⟨gp,0,none⟩) 5 5)] Tryd.func48 rfl rfl kj rfl <| sgC fun K2 hK2=>Qar (ints .u8 (key)) 58 2 rfl kj kj fun g3 W1 l3 e1 r3_1=>?_
  have x1:=zbs (zbo w) e1
  have b3:=qT (zbo w).size l3
  refine Qar (ints .u8 (zat 16 0)) 84 4 rfl kj kj fun g4 W2 l4 e2 r4_2=>?_
  have x2:=zbs x1 e2
  refine sgN hK2 <| sgC fun K5 hK5=>Qab (.agg (ints .u8 (key))) 8 rfl kj (Qap 58 _ g3 58 _ _ (Qaa r3_1 e2) rfl kj kj (isz (n:=32) kj (izT hkl))) <| Qav (fun v W'=>(fun v W=>∃ g,v=.pointer (some ⟨g,0,none⟩)∧W2.heap.size≤g∧Mk g (rOf key) (sOf key) [] W) v W'∧Ext W2 W') 66 #[.agg (ints .u8 (key))] 9 rfl kj kj ((QiS key _ hkl hkb).mono (by rintro e w' ⟨v,rfl,e1,hv⟩; exact ⟨v,rfl,hv,e1⟩)) fun vv6 W3 hh6=>?_
  obtain ⟨hv6,e3⟩:=hh6
  have x3:=zbs x2 e3
  obtain ⟨gm,rfl,lm,hM0⟩:=hv6
  have hgm:w.heap.size≤gm:=qT x2.size lm
  refine sg 1 kj <| sgN hK5 <| wp_seq_k fun K8 hK8=>sgB kj <| wp_block <| wp_loop_rounds 6 ?_
  show zaj _ _ (Exit.then (zak _ _ _ 5) _) _ _
  refine sgB kj <| sgT kj <| wp_seq_k fun K12 hK12=>wp_block <| sgC fun K13 hK13=>Qab (.pointer (some ⟨gp,0,none⟩)) 14 rfl kj (Qbf 123 _ _ .i64 (0) gp 5 5 33 rfl kj kj kj kj (by decide)) ?_
  have r1_2:=(Qaa (Qaa hp e1) e2)
  have r1_3:=(Qaa r1_2 e3)
  refine Qab (.slice a_y0 y0.length c_y0) 15 rfl kj (Qad 33 _ gp 0 33 _ (.slice a_y0 y0.length c_y0) _ r1_3 rfl kj kj kj) <| sg 1 kj <| sgN hK13 <| Qae <| sg 2 kj <| Qav (fun v W'=>v=.tuple #[]∧ExtB gm W3 W'∧Mk gm (rOf key) (sOf key) (y0) W') 67 #[.pointer (some ⟨gm,0,none⟩),.slice a_y0 y0.length c_y0] 18 rfl kj kj ((addC gm (rOf key) (sOf key) ([]) y0 _ B _ (Qf1 key hkl hkb) (qT hB hgm) (zby hy0 x3) hb0 hl0 hM0).mono fun e w' h=>⟨_,h.1,rfl,h.2⟩) fun v W4 h4=>?_
  obtain ⟨rfl,q4,M4⟩:=h4
  have x4:=zbw x3 q4 hgm
  refine Qal <| hK12 _ _ <| sgA kj ?_
  show zak _ _ _ 5 _ _
  show zaj _ _ (Exit.then (zak _ _ _ 4) _) _ _
  refine sgB kj <| sgT kj <| wp_seq_k fun K16 hK16=>wp_block <| sgC fun K17 hK17=>Qab (.pointer (some ⟨gp,1,none⟩)) 14 rfl kj (Qbf 123 _ _ .i64 (1) gp 5 5 33 rfl kj kj kj kj (by decide)) ?_
  have r1_4:=(zbv q4 r1_3 (Qag r1_2 lm))
  refine Qab (.slice a_y1 y1.length c_y1) 15 rfl kj (Qad 33 _ gp 1 33 _ (.slice a_y1 y1.length c_y1) _ r1_4 rfl kj kj kj) <| sg 1 kj <| sgN hK17 <| Qae <| sg 2 kj <| Qav (fun v W'=>v=.tuple #[]∧ExtB gm W4 W'∧Mk gm (rOf key) (sOf key) (y0++y1) W') 67 #[.pointer (some ⟨gm,0,none⟩),.slice a_y1 y1.length c_y1] 18 rfl kj kj ((addC gm (rOf key) (sOf key) (y0) y1 _ B _ (Qf1 key hkl hkb) (qT hB hgm) (zby hy1 x4) hb1 hl1 M4).mono fun e w' h=>⟨_,h.1,rfl,h.2⟩) fun v W5 h5=>?_
  obtain ⟨rfl,q5,M5⟩:=h5
  have x5:=zbw x4 q5 hgm
  refine Qal <| hK16 _ _ <| sgA kj ?_
  show zak _ _ _ 4 _ _
  show zaj _ _ (Exit.then (zak _ _ _ 3) _) _ _
  refine sgB kj <| sgT kj <| wp_seq_k fun K20 hK20=>wp_block <| sgC fun K21 hK21=>Qab (.pointer (some ⟨gp,2,none⟩)) 14 rfl kj (Qbf 123 _ _ .i64 (2) gp 5 5 33 rfl kj kj kj kj (by decide)) ?_
  have r1_5:=(zbv q5 r1_4 (Qag r1_2 lm))
  refine Qab (.slice a_y2 y2.length c_y2) 15 rfl kj (Qad 33 _ gp 2 33 _ (.slice a_y2 y2.length c_y2) _ r1_5 rfl kj kj kj) <| sg 1 kj <| sgN hK21 <| Qae <| sg 2 kj <| Qav (fun v W'=>v=.tuple #[]∧ExtB gm W5 W'∧Mk gm (rOf key) (sOf key) (y0++y1++y2) W') 67 #[.pointer (some ⟨gm,0,none⟩),.slice a_y2 y2.length c_y2] 18 rfl kj kj ((addC gm (rOf key) (sOf key) (y0++y1) y2 _ B _ (Qf1 key hkl hkb) (qT hB hgm) (zby hy2 x5) hb2 hl2 M5).mono fun e w' h=>⟨_,h.1,rfl,h.2⟩) fun v W6 h6=>?_
  obtain ⟨rfl,q6,M6⟩:=h6
  have x6:=zbw x5 q6 hgm
  refine Qal <| hK20 _ _ <| sgA kj ?_
  show zak _ _ _ 3 _ _
  show zaj _ _ (Exit.then (zak _ _ _ 2) _) _ _
  refine sgB kj <| sgT kj <| wp_seq_k fun K24 hK24=>wp_block <| sgC fun K25 hK25=>Qab (.pointer (some ⟨gp,3,none⟩)) 14 rfl kj (Qbf 123 _ _ .i64 (3) gp 5 5 33 rfl kj kj kj kj (by decide)) ?_
  have r1_6:=(zbv q6 r1_5 (Qag r1_2 lm))
  refine Qab (.slice a_y3 y3.length c_y3) 15 rfl kj (Qad 33 _ gp 3 33 _ (.slice a_y3 y3.length c_y3) _ r1_6 rfl kj kj kj) <| sg 1 kj <| sgN hK25 <| Qae <| sg 2 kj <| Qav (fun v W'=>v=.tuple #[]∧ExtB gm W6 W'∧Mk gm (rOf key) (sOf key) (y0++y1++y2++y3) W') 67 #[.pointer (some ⟨gm,0,none⟩),.slice a_y3 y3.length c_y3] 18 rfl kj kj ((addC gm (rOf key) (sOf key) (y0++y1++y2) y3 _ B _ (Qf1 key hkl hkb) (qT hB hgm) (zby hy3 x6) hb3 hl3 M6).mono fun e w' h=>⟨_,h.1,rfl,h.2⟩) fun v W7 h7=>?_
  obtain ⟨rfl,q7,M7⟩:=h7
  have x7:=zbw x6 q7 hgm
  refine Qal <| hK24 _ _ <| sgA kj ?_
  show zak _ _ _ 2 _ _
  show zaj _ _ (Exit.then (zak _ _ _ 1) _) _ _
  refine sgB kj <| sgT kj <| wp_seq_k fun K28 hK28=>wp_block <| sgC fun K29 hK29=>Qab (.pointer (some ⟨gp,4,none⟩)) 14 rfl kj (Qbf 123 _ _ .i64 (4) gp 5 5 33 rfl kj kj kj kj (by decide)) <| Qab (.slice a_y4 y4.length c_y4) 15 rfl kj (Qad 33 _ gp 4 33 _ (.slice a_y4 y4.length c_y4) _ (zbv q7 r1_6 (Qag r1_2 lm)) rfl kj kj kj) <| sg 1 kj <| sgN hK29 <| Qae ?_
  refine sg 2 kj <| Qav (fun v W'=>v=.tuple #[]∧ExtB gm W7 W'∧Mk gm (rOf key) (sOf key) (y0++y1++y2++y3++y4) W') 67 #[.pointer (some ⟨gm,0,none⟩),.slice a_y4 y4.length c_y4] 18 rfl kj kj ((addC gm (rOf key) (sOf key) (y0++y1++y2++y3) y4 _ B _ (Qf1 key hkl hkb) (qT hB hgm) (zby hy4 x7) hb4 hl4 M7).mono fun e w' h=>⟨_,h.1,rfl,h.2⟩) fun v W8 h8=>?_
  obtain ⟨rfl,q8,M8⟩:=h8
  refine Qal <| hK28 _ _ <| sgA kj ?_
  show zak _ _ _ 1 _ _
  show zaj _ _ (Exit.then (zak _ _ _ 0) _) _ _
  refine sgB kj <| wp_seq_k fun K31 hK31=>cond_false kj <| wp_exit <| hK8 _ _ <| sgC fun K32 hK32=>sg 1 kj <| Qav (fun v W'=>v=.agg (ints .u8 (tagV (rOf key) (sOf key) (y0++y1++y2++y3++y4)))∧ExtB gm W8 W') 68 #[.pointer (some ⟨gm,0,none⟩)] 21 rfl kj kj ((endC gm (rOf key) (sOf key) (y0++y1++y2++y3++y4) _ (Qf1 key hkl hkb) (QnE key hkl hkb) M8).mono fun e w' h=>⟨_,h.1,rfl,h.2⟩) fun v W9 h9=>?_
  obtain ⟨rfl,q9⟩:=h9
  have r4_9:=(zbv q9 (zbv q8 (zbv q7 (zbv q6 (zbv q5 (zbv q4 (Qaa r4_2 e3) (Qag r4_2 lm)) (Qag r4_2 lm)) (Qag r4_2 lm)) (Qag r4_2 lm)) (Qag r4_2 lm)) (Qag r4_2 lm))
  refine Qan g4 _ (ints .u8 (tagV (rOf key) (sOf key) (y0++y1++y2++y3++y4))) 84 r4_9 rfl kj (Qao 84 _ _ g4 84 _ _ r4_9 rfl kj kj (isz (n:=16) kj (izT (QaT _))) (eqsz (n:=16) (izT (qZ (n:=16))) (izT (QaT _))) (Qay _ _)) fun W10 p10 r4_10=>sgN hK32 <| wp_ret ?_
  repeat (first | with_reducible refine goR1 ?_ | with_reducible refine goR2 ?_)
  exact (show bodyPost _ _ _ .ret _ _ from ret1 (.agg (ints .u8 (tagV (rOf key) (sOf key) (y0++y1++y2++y3++y4)))) rfl (QaP g4 84 _ r4_10 kj kj (isz (n:=16) kj (izT (QaT _)))) ⟨rfl,(zbr p10 (zbw (zbw x7 q8 hgm) q9 hgm) (qT x1.size l4))⟩)
end Ae
end
section
namespace Ae
open Go Go.RowKit
open Rely Auto Own Sha
open Sha Cha
theorem QnF {P : Program} {ρ:Operand→Value} {o:Oper} {w:World} (t:TypeId) (n:Nat) (parts:Array (Nat×Operand)) (vs:Array (Nat×Value)) (ho:o.op=.buildSlice t n parts) (hv:(parts.map fun (i,x)=>(i,ρ x))=vs) {s:Value} {w':World} (h:(Instr.buildSlice t n vs).run P w=.ok s w') :
    (execOp ρ o).run P w=.ok (.value s) w':=by
  unfold execOp
  simp only [ho,hv,za7,h,za8,za9]
theorem run_sap {P : Program} {ρ:Operand→Value} {o:Oper} {w:World} (t:TypeId) (x:Operand) (n:Nat) (e:TypeId) {a:Option Addr} {len cap:Nat} (ho:o.op=.sliceToArrayPointer t x) (hx:ρ x=.slice a len cap) (hu:P.underlying t=some (.array n e)) (h:n≤len) :
    (execOp ρ o).run P w=.ok (.value (.pointer a)) w:=by
  unfold execOp
  simp [ho,hx,Instr.arrayAt,run_underlying hu,Nat.not_lt.2 h]
theorem Qly {k : IntKind} {xs:List Int} {n:Nat}:∀ j v,(ints k (xs.take n))[j]? = some v→(ints k xs)[0+j]? = some v:=fun j v hv=>by
  rw [Nat.zero_add]
  have hj:j<(xs.take n).length:=by
    have:=(Array.getElem?_eq_some_iff.1 hv).1
    rwa [Qat] at this
  have hj2:j<n∧j<xs.length:=by rw [zah] at hj; omega
  rw [←hv,QaG _ _ _ hj,QaG _ _ _ hj2.2,QfV _ _ _ hj2.1]
theorem Qg3 (ws : List Wd) (n:Int):Qai (Qbu ws n):=fun x hx=>by
  unfold Qbu Qci at hx
  obtain ⟨i,-,rfl⟩:=za0.1 hx
  omega
def otk (key nonce:List Int):List Int:=(Qbu (QaZ key nonce) 0).take 32
theorem QjG (key nonce:List Int):(otk key nonce).length=32:=by unfold otk; rw [zah,QbG]; rfl
theorem QjH (key nonce:List Int):Qai (otk key nonce):=Qbe (Qg3 _ _) 32
def padV (xs : List Int):List Int:=zat ((16-xs.length%16)%16) 0
theorem QhN (xs : List Int):(padV xs).length=(16-xs.length%16)%16:=qZ
theorem Qf4 (xs : List Int):Qai (padV xs):=fun x hx=>by
  have:=zaA hx
  subst this
  exact ⟨by decide,by decide⟩
def QoY (ctx mixed:List Int):List Int:=ctx++padV ctx++mixed++padV mixed++(by8 ((ctx.length:Nat):Int)++by8 ((mixed.length:Nat):Int))
def Qd0 (key nonce ctx mixed:List Int):List Int:=tagV (rOf (otk key nonce)) (sOf (otk key nonce)) (QoY ctx mixed)
theorem Qb8 (key nonce ctx mixed:List Int):(Qd0 key nonce ctx mixed).length=16:=QaT _
theorem QlN (n0 : Nat) (xs:List Int) (v:Value) (B:Nat) (w:World) (h:RdK .u8 B xs v w) (hn0:n0≤w.heap.size):Calls Tryd.prog 49 #[v] w (QbF w (OwnN .u8 5 n0 (padV xs))) :=
  (Qnt xs v B w h).mono fun e W' hg=>by
    obtain ⟨v',e1,e2,e3⟩:=hg
    exact ⟨v',e1,e2,e3.base hn0⟩
set_option maxRecDepth 100000 in
theorem QjT (key nonce ctx mixed:List Int) (v v2 v3:Value) (B B2 B3:Nat) (th tq:TypeId) (w:World) (hh:w.heap[0]? = some (.cells (ints .u32 qH) th)) (hq:w.heap[1]? = some (.cells (ints .i64 qQ) tq)) (hkl:key.length=32) (hn:RdK .u8 B nonce v w) (hc:RdK .u8 B2 ctx v2 w) (hm:RdK .u8 B3 mixed v3 w) (h:nonce.length=12) (hcb:Qai ctx) (hmb:Qai mixed) (hcl:ctx.length≤2000000) (hml:mixed.length≤2000000) :
  Calls Tryd.prog 34 #[.agg (ints .u8 key),v,v2,v3] w (Ret w (.tuple #[.agg (ints .u8 (Qd0 key nonce ctx mixed)),.nilIface])):=by
 obtain ⟨a_n,c_n,rfl,-⟩:=id hn
 obtain ⟨a_c,c_c,rfl,-⟩:=id hc
 obtain ⟨a_m,c_m,rfl,-⟩:=id hm
 refine enter 42 [(0,.agg (ints .u8 (key))),(1,.slice a_n nonce.length c_n),(2,.slice a_c ctx.length c_c),(3,.slice a_m mixed.length c_m)] Tryd.func34 rfl rfl kj rfl <| sgC fun K3 hK3=>Qar (ints .u8 (key)) 58 4 rfl kj kj fun g4 W1 l4 e1 r4_1=>?_
 have x1:=zbs (zbo w) e1
 have b4:=qT (zbo w).size l4
 refine Qar (ints .u8 (zat 16 0)) 84 8 rfl kj kj fun g5 W2 l5 e2 r5_2=>?_
 have x2:=zbs x1 e2
 refine sg 1 kj <| sgN hK3 <| sgC fun K6 hK6=>Qab (.agg (ints .u8 (key))) 14 rfl kj (Qap 58 _ g4 58 _ _ (Qaa r4_1 e2) rfl kj kj (isz (n:=32) kj (izT hkl))) <| sg 1 kj <| Qau (.tuple #[.agg (ints .u8 (Qbu (QaZ key nonce) (0))),.nilIface]) 46 #[.agg (ints .u8 (key)),.slice a_n nonce.length c_n,.int .i64 0] 16 rfl kj kj ((Qno key nonce _ _ 0 th tq _ (Qaa (Qaa hh e1) e2) (Qaa (Qaa hq e1) e2) hkl (zby hn x2) h (by decide) (by decide))) fun W3 e3=>?_
 have x3:=zbs x2 e3
 refine sg 3 kj <| Qar (ints .u8 (zat 64 0)) 102 10 rfl kj kj fun g7 W4 l7 e4 r7_4=>Qan g7 _ (ints .u8 (Qbu (QaZ key nonce) (0))) 102 r7_4 rfl kj (Qao 102 _ _ g7 102 _ _ r7_4 rfl kj kj (isz (n:=64) kj (izT (QbG _ _))) (eqsz (n:=64) (izT (qZ (n:=64))) (izT (QbG _ _))) (Qay _ _)) fun W5 p5 r7_5=>?_
 have x5:=zbr p5 (zbs x3 e4) (qT x3.size l7)
 refine sg 1 kj <| sgN hK6 <| wp_seq_k fun K8 hK8=>sgB kj <| cond_false kj <| wp_skip <| hK8 _ _ <| sgC fun K10 hK10=>sg 2 kj <| Qav (fun v W'=>(OwnN .u8 5 W5.heap.size (by8 ((ctx.length:Nat):Int))) v W'∧Ext W5 W') 47 #[.int .i64 ((ctx.length:Nat):Int)] 25 rfl kj kj ((QjX (ctx.length) _).mono (by rintro e w' ⟨v,rfl,e1,hv⟩; exact ⟨v,rfl,hv,e1⟩)) fun vv11 W6 hh11=>?_
 obtain ⟨hv11,e6⟩:=hh11
 obtain ⟨a25_,c25_,rfl,-⟩:=id (zbz hv11)
 refine sg 2 kj <| Qav (fun v W'=>(OwnN .u8 5 W6.heap.size (by8 ((mixed.length:Nat):Int))) v W'∧Ext W6 W') 47 #[.int .i64 ((mixed.length:Nat):Int)] 28 rfl kj kj ((QjX (mixed.length) _).mono (by rintro e w' ⟨v,rfl,e1,hv⟩; exact ⟨v,rfl,hv,e1⟩)) fun vv12 W7 hh12=>?_
 obtain ⟨hv12,e7⟩:=hh12
 obtain ⟨a28_,c28_,rfl,-⟩:=id (zbz hv12)
 refine Qbk (k:=.u8) (T:=5) (xs:=by8 ((ctx.length:Nat):Int)) (ys:=by8 ((mixed.length:Nat):Int)) (V:=W5) 1 (.tmp 25) (.tmp 28) 33 rfl kj kj (by decide) 29 rfl kj kj kj (hv11.ext e7) (zbz hv12) (by rw [Qdz,Qdz]; decide) (zbp (zbp (zbo W5) e6) e7) fun zl W8 f14 y8 l8=>?_
 have x8:=Ext.low (zbs (zbs x5 e6) e7) l8 x5.size
 obtain ⟨a29_,c29_,rfl,-⟩:=id (zbz f14)
 refine sg 1 kj <| sgN hK10 <| wp_seq_k fun K16 hK16=>Qbg 11 [⟨none,[(10,none)]⟩,⟨none,[(30,some 0)]⟩,⟨none,[(31,some 1)]⟩,⟨none,[(2,none)]⟩,⟨none,[(2,none)]⟩,⟨none,[(34,some 4)]⟩,⟨none,[(3,none)]⟩,⟨none,[(3,none)]⟩,⟨none,[(37,some 7)]⟩,⟨none,[(12,none)]⟩,⟨none,[(33,some 3),(35,some 5),(36,some 6),(38,some 8),(39,some 9)]⟩] kj kj fun F hF=>Qa8 (Qas _) (.slice (some ⟨g7,0+0,none⟩) (32-0) (64-0)) kj kj (fun W=>(Qb3 102 _ _ _ 0 32 64 g7 0 5 rfl kj kj kj rfl ⟨.i64,by kernel_rfl⟩ (by omega) (by omega) (by omega))) <| Qa8 (Qas _) (.pointer (some ⟨g7,0,none⟩)) kj kj (fun W=>(run_sap 58 _ 32 5 (len:=32) (cap:=64) rfl kj kj (by decide))) <| Qbc (Qas _) (.agg (ints .u8 (otk key nonce))) kj kj (fun W hR=>(Qa0 58 _ g7 0 102 _ (ints .u8 (otk key nonce)) _ (Qaa (Qaa (Qb6 l8 (Qaa (Qaa r7_5 e6) e7) (Qaq r7_5)) (Qaj _)) hR) rfl kj (Qly (xs:=Qbu (QaZ key nonce) (0)) (n:=32)) kj (isz (n:=32) kj (izT (QjG _ _))))) <| Qa8 (Qas _) (.slice a_c ctx.length c_c) kj kj (fun _=>kj) <| Qa8 (Qas _) (.slice a_c ctx.length c_c) kj kj (fun _=>kj) <| QdP (Qas _) (OwnN .u8 5 W8.heap.size (padV ctx)) (zbx _ _ _ _) 49 #[.slice a_c ctx.length c_c] kj kj (fun _=>kj) (fun W hR=>(QlN W8.heap.size ctx _ _ _ (zby (zby hc x8) (zbp (Qaj _) hR)) (zbp (Qaj _) hR).size)) ?_
 refine Qa8 (Qas _) (.slice a_m mixed.length c_m) kj kj (fun _=>kj) <| Qa8 (Qas _) (.slice a_m mixed.length c_m) kj kj (fun _=>kj) <| QdP (Qas _) (OwnN .u8 5 W8.heap.size (padV mixed)) (zbx _ _ _ _) 49 #[.slice a_m mixed.length c_m] kj kj (fun _=>kj) (fun W hR=>(QlN W8.heap.size mixed _ _ _ (zby (zby hm x8) (zbp (Qaj _) hR)) (zbp (Qaj _) hR).size)) <| Qa8 (Qas _) (.slice a29_ ((by8 ((ctx.length:Nat):Int)++by8 ((mixed.length:Nat):Int)).length) c29_) kj kj (fun _=>kj) <| Qim (Qas _) (fun v W=>∃ g za35_19 za38_19,v=.slice (some ⟨g,0,none⟩) 5 5∧W8.heap.size≤g∧W.heap[g]? = some (.cells #[.slice a_c ctx.length c_c,za35_19,.slice a_m mixed.length c_m,za38_19,.slice a29_ ((by8 ((ctx.length:Nat):Int)++by8 ((mixed.length:Nat):Int)).length) c29_] 33)∧(OwnN .u8 5 W8.heap.size (padV ctx)) za35_19 W∧(OwnN .u8 5 W8.heap.size (padV mixed)) za38_19 W) (fun _ _ _ hR ⟨g,za35_19,za38_19,h1,h2,h3,qza35_19,qza38_19⟩=>⟨g,za35_19,za38_19,h1,h2,Qaa h3 hR,(zbx _ _ _ _) _ _ _ hR qza35_19,(zbx _ _ _ _) _ _ _ hR qza38_19⟩) (fun ρ W hR hh=>?_) ?_
 ·skip
  have e33:ρ 33=.slice a_c ctx.length c_c:=hh.1
  obtain ⟨ar35,cr35,e35,-⟩:=id (zbz hh.2.1)
  have e36:ρ 36=.slice a_m mixed.length c_m:=hh.2.2.1
  obtain ⟨ar38,cr38,e38,-⟩:=id (zbz hh.2.2.2.1)
  have e39:ρ 39=.slice a29_ ((by8 ((ctx.length:Nat):Int)++by8 ((mixed.length:Nat):Int)).length) c29_:=hh.2.2.2.2.1
  refine ⟨_,_,QnF 123 5 _ _ rfl (Eq.trans (b:=#[(0,ρ 33),(1,ρ 35),(2,ρ 36),(3,ρ 38),(4,ρ 39)]) kj (by rw [e33,e35,e36,e38,e39])) (s:=.slice (some ⟨W.heap.size,0,none⟩) 5 5) (w':=W.alloc (.cells #[.slice a_c ctx.length c_c,.slice ar35 (padV ctx).length cr35,.slice a_m mixed.length c_m,.slice ar38 (padV mixed).length cr38,.slice a29_ ((by8 ((ctx.length:Nat):Int)++by8 ((mixed.length:Nat):Int)).length) c29_] 33)) kj,Qbb _ _,⟨W.heap.size,ρ 35,ρ 38,rfl,(zbp (Qaj _) hR).size,?_,(zbx _ _ _ _) _ _ _ (Qbb _ _) hh.2.1,(zbx _ _ _ _) _ _ _ (Qbb _ _) hh.2.2.2.1⟩⟩
  rw [e35,e38]; exact heap_alloc_new _ _
 refine QcO (hF _ fun W9 e9=>?_)
 simp only [zan,zao,zap,zaq,zar,zas,finE,up]
 intro vv17 hv17 vv18 hv18 vv19 hv19
 clear hF
 have x9:=zbs x8 e9
 obtain ⟨g20,za35_19,za38_19,rfl,l20,r20_9,qza35_19,qza38_19⟩:=hv19
 have b20:=qT x8.size l20
 obtain ⟨a35b_,c35b_,rfl,-⟩:=id (zbz qza35_19)
 obtain ⟨a38b_,c38b_,rfl,-⟩:=id (zbz qza38_19)
 refine Qau (.agg (ints .u8 (Qd0 key nonce ctx mixed))) 48 #[.agg (ints .u8 (otk key nonce)),.slice (some ⟨g20,0,none⟩) 5 5] 41 rfl kj kj ((QnY (otk key nonce) ctx (padV ctx) mixed (padV mixed) (by8 ((ctx.length:Nat):Int)++by8 ((mixed.length:Nat):Int)) _ _ _ _ _ _ _ _ (QjG _ _) (QjH _ _) (qR _) (zb5 (zby hc x9)) hcb (by omega) (zb5 (zbz qza35_19)) (Qf4 _) (by rw [QhN]; omega) (zb5 (zby hm x9)) hmb (by omega) (zb5 (zbz qza38_19)) (Qf4 _) (by rw [QhN]; omega) (zb5 (zbz (f14.ext e9))) (bytes_app (QgW _) (QgW _)) (by rw [zaB,Qdz,Qdz]; decide) r20_9)) fun W10 e10=>?_
 have r5_3:=(Qaa r5_2 e3)
 have r5_5:=(rpn p5 r5_3 e4 l7)
 have r5_10:=(Qaa (Qaa (Qb6 l8 (Qaa (Qaa r5_5 e6) e7) (Qaq r5_5)) e9) e10)
 refine Qan g5 _ (ints .u8 (Qd0 key nonce ctx mixed)) 84 r5_10 rfl kj (Qao 84 _ _ g5 84 _ _ r5_10 rfl kj kj (isz (n:=16) kj (izT (Qb8 _ _ _ _))) (eqsz (n:=16) (izT (qZ (n:=16))) (izT (Qb8 _ _ _ _))) (Qay _ _)) fun W11 p11 r5_11=>sg 1 kj <| sgN hK16 <| wp_ret ?_
 repeat (first | with_reducible refine goR1 ?_ | with_reducible refine goR2 ?_)
 exact (show bodyPost _ _ _ .ret _ _ from ret2 (.agg (ints .u8 (Qd0 key nonce ctx mixed))) (.nilIface) rfl (QaP g5 84 _ r5_11 kj kj (isz (n:=16) kj (izT (Qb8 _ _ _ _)))) (Qaz kj) ⟨rfl,(zbr p11 (zbs x9 e10) (qT x1.size l5))⟩)
end Ae
end
section
namespace Ae
open Go Go.RowKit
open Rely Auto Own Sha
open Sha Cha
def QcS (key nonce ctx text:List Int):List Int:=mixV (QaZ key nonce) 1 text++Qd0 key nonce ctx (mixV (QaZ key nonce) 1 text)
theorem Qcx (key nonce ctx text:List Int):(QcS key nonce ctx text).length=text.length+16:=by unfold QcS; rw [zaB,QbV,Qb8]
theorem QkS (xs ys:List Int) (v v2:Value) (B B2:Nat) (w:World) (e:xs=ys) (hx:RdK .u8 B xs v w) (hy:RdK .u8 B2 ys v2 w) (hxb:Qai xs) (hyb:Qai ys) (hl:ys.length=xs.length) (hxl:xs.length≤2000000):Calls Tryd.prog 39 #[v,v2] w (Ret w (.bool true)):=by
  have h:=QnD xs ys v v2 B B2 w hx hy hxb hyb hl hxl
  rw [decide_eq_true e] at h
  exact h
theorem Qfn (key nonce ctx mixed:List Int):Qai (Qd0 key nonce ctx mixed):=Qjf _
theorem Qc7 (key nonce ctx text:List Int):Qai (QcS key nonce ctx text):=bytes_app (Qf8 _ _ _) (Qfn _ _ _ _)
theorem MixE (key nonce text fm:List Int) (v v2:Value) (B B2:Nat) (th tq:TypeId) (w:World) (hh:w.heap[0]? = some (.cells (ints .u32 qH) th)) (hq:w.heap[1]? = some (.cells (ints .i64 qQ) tq)) (hkl:key.length=32) (hn:RdK .u8 B nonce v w) (ht:RdK .u8 B2 text v2 w) (h:nonce.length=12) (hl:text.length≤2000000) (em:mixV (QaZ key nonce) 1 text=fm) :
    Calls Tryd.prog 33 #[.agg (ints .u8 key),v,.int .i64 1,v2] w (QbF w (MixR w.heap.size fm)):=by
  subst em
  exact MixG w.heap.size key nonce text v v2 B B2 1 th tq w hh hq hkl hn ht h 4294967295 (by decide) (by decide) (by decide) (by omega) hl (qR _)
set_option maxRecDepth 100000 in
theorem Qmo (key nonce ctx text:List Int) (v v2 v3:Value) (B B2 B3:Nat) (th tq:TypeId) (w:World) (hh:w.heap[0]? = some (.cells (ints .u32 qH) th)) (hq:w.heap[1]? = some (.cells (ints .i64 qQ) tq)) (hkl:key.length=32) (hn:RdK .u8 B nonce v w) (hc:RdK .u8 B2 ctx v2 w) (ht:RdK .u8 B3 text v3 w) (hcb:Qai ctx) (h:nonce.length=12) (hcl:ctx.length≤1048576) (hxl:text.length≤1048576) :
    Calls Tryd.prog 20 #[.agg (ints .u8 key),v,v2,v3] w (QbF w (MixR w.heap.size (QcS key nonce ctx text))):=by
  obtain ⟨a_n,c_n,rfl,-⟩:=id hn
  obtain ⟨a_c,c_c,rfl,-⟩:=id hc
  obtain ⟨a_t,c_t,rfl,-⟩:=id ht
  obtain ⟨fm,em⟩:∃ z:List Int,mixV (QaZ key nonce) 1 text=z:=⟨_,rfl⟩
  have lfm:fm.length=text.length:=by rw [←em,QbV]
  have hfb:Qai fm:=by rw [←em]; exact Qf8 _ _ _
  refine enter 51 [(0,.agg (ints .u8 (key))),(1,.slice a_n nonce.length c_n),(2,.slice a_c ctx.length c_c),(3,.slice a_t text.length c_t)] Tryd.func20 rfl rfl kj rfl <| sgC fun K3 hK3=>Qar (ints .u8 (key)) 58 4 rfl kj kj fun g4 W1 l4 e1 r4_1=>?_
  have x1:=zbs (zbo w) e1
  have b4:=qT (zbo w).size l4
  refine sg 2 kj <| sgN hK3 <| wp_seq_k fun K5 hK5=>sgC fun K6 hK6=>sg 2 kj <| Qab (.bool false) 15 rfl kj (Qah (u:=.bool ((((nonce.length:Nat):Int) != 12))) kj (congrArg zau (by rw [h]; rfl))) ?_
  refine sg 3 kj <| Qab (.bool false) 19 rfl kj (Qah (u:=.bool (decide (((ctx.length:Nat):Int)>1048576))) kj (congrArg zau (decide_eq_false (by omega)))) <| sg 4 kj <| Qab (.bool false) 24 rfl kj (Qah (u:=.bool (decide (((text.length:Nat):Int)>1048576))) kj (congrArg zau (decide_eq_false (by omega)))) <| sg 1 kj <| sgN hK6 <| cond_false kj <| wp_skip <| hK5 _ _ <| sgC fun K7 hK7=>?_
  refine Qab (.agg (ints .u8 (key))) 28 rfl kj (Qap 58 _ g4 58 _ _ r4_1 rfl kj kj (isz (n:=32) kj (izT hkl))) <| sg 2 kj ?_
  have r2_1:=(Qaa hh e1)
  have r1_1:=(Qaa hq e1)
  refine Qav (fun v W'=>(MixR W1.heap.size (fm)) v W'∧Ext W1 W') 33 #[.agg (ints .u8 (key)),.slice a_n nonce.length c_n,.int .i64 1,.slice a_t text.length c_t] 31 rfl kj kj ((MixE key nonce (text) (fm) _ _ _ _ th tq _ r2_1 r1_1 hkl (zby hn x1) (zby ht x1) h (by omega) em).mono (by rintro e w' ⟨v,rfl,e1,hv⟩; exact ⟨v,rfl,hv,e1⟩)) fun vv8 W2 hh8=>?_
  obtain ⟨hv8,e2⟩:=hh8
  have x2:=zbs x1 e2
  obtain ⟨u31_,rfl,hu31_⟩:=hv8
  obtain ⟨a31_,c31_,rfl,-⟩:=id (zbz hu31_)
  refine sg 5 kj <| sgN hK7 <| wp_seq_k fun K9 hK9=>sgB kj <| cond_false kj <| wp_skip <| hK9 _ _ <| sgC fun K11 hK11=>Qab (.agg (ints .u8 (key))) 38 rfl kj (Qap 58 _ g4 58 _ _ (Qaa r4_1 e2) rfl kj kj (isz (n:=32) kj (izT hkl))) <| sg 3 kj ?_
  refine Qau (.tuple #[.agg (ints .u8 (Qd0 key nonce ctx fm)),.nilIface]) 34 #[.agg (ints .u8 (key)),.slice a_n nonce.length c_n,.slice a_c ctx.length c_c,.slice a31_ ((fm).length) c31_] 42 rfl kj kj ((QjT key nonce ctx fm _ _ _ _ _ _ th tq _ (Qaa r2_1 e2) (Qaa r1_1 e2) hkl (zby hn x2) (zby hc x2) (zbz hu31_) h hcb hfb (by omega) (by omega))) fun W3 e3=>?_
  have x3:=zbs x2 e3
  refine sg 3 kj <| Qar (ints .u8 (zat 16 0)) 84 12 rfl kj kj fun g12 W4 l12 e4 r12_4=>Qan g12 _ (ints .u8 (Qd0 key nonce ctx fm)) 84 r12_4 rfl kj (Qao 84 _ _ g12 84 _ _ r12_4 rfl kj kj (isz (n:=16) kj (izT (Qb8 _ _ _ _))) (eqsz (n:=16) (izT (qZ (n:=16))) (izT (Qb8 _ _ _ _))) (Qay _ _)) fun W5 p5 r12_5=>sg 1 kj <| sgN hK11 <| wp_seq_k fun K13 hK13=>sgB kj <| cond_false kj <| wp_skip <| hK13 _ _ ?_
  refine sgC fun K15 hK15=>sg 2 kj ?_
  have f16_3:=(hu31_.ext e3)
  have y1_3:=(zbp (zbp (zbo W1) e2) e3)
  refine Qbk (k:=.u8) (T:=5) (xs:=fm) (ys:=Qd0 key nonce ctx fm) (V:=W1) 1 (.tmp 48) (.tmp 49) 33 rfl kj kj (by decide) 50 rfl kj kj kj ((f16_3.ext e4).puts p5 (nb_new f16_3 l12)) (Qbp (xs:=Qd0 key nonce ctx fm) (n:=16) (Qb8 _ _ _ _) r12_5 (Qaq r12_5) (show 16≤maxLen from by decide)) (by rw [Qb8]; omega) (zbr p5 (zbp y1_3 e4) (qT y1_3.size l12)) fun zs W6 f19 y6 l6=>?_
  refine sg 2 kj <| sgN hK15 <| wp_ret ?_
  repeat (first | with_reducible refine goR1 ?_ | with_reducible refine goR2 ?_)
  exact (show bodyPost _ _ _ .ret _ _ from ret2 (zs) (.nilIface) rfl (Qaz kj) (Qaz kj) ⟨_,rfl,(Ext.low (zbr p5 (zbs x3 e4) (qT x3.size l12)) l6 x1.size),zs,rfl,by unfold QcS; rw [em]; exact OwnN.base x1.size f19⟩)
end Ae
end
section
namespace Ae
open Go Go.RowKit
open Rely Auto Own Sha
open Sha Cha
theorem QgM (n : Nat) (h:16≤n) (hm:n≤maxLen):zaw.wrap (((n:Nat):Int)-16)=((n-16:Nat):Int):=by
  rw [show ((n:Nat):Int)-16=((n-16:Nat):Int) by omega]
  exact IntWalk.i64_in _ (by rw [maxLen] at hm; omega)
set_option maxRecDepth 100000 in
theorem Qop (key nonce ctx sl:List Int) (v v2 v3:Value) (B B2 B3:Nat) (th tq:TypeId) (w:World) (hh:w.heap[0]? = some (.cells (ints .u32 qH) th)) (hq:w.heap[1]? = some (.cells (ints .i64 qQ) tq)) (hkl:key.length=32) (hn:RdK .u8 B nonce v w) (hc:RdK .u8 B2 ctx v2 w) (ht:RdK .u8 B3 sl v3 w) (hcb:Qai ctx) (htb:Qai sl) (h:nonce.length=12) (hcl:ctx.length≤1048592) (hxl:sl.length≤1048592) (hsh:16≤sl.length) (hne:Qd0 key nonce ctx (sl.take (sl.length-16))=sl.drop (sl.length-16)) :
    Calls Tryd.prog 25 #[.agg (ints .u8 key),v,v2,v3] w (QbF w (MixR w.heap.size (mixV (QaZ key nonce) 1 (sl.take (sl.length-16))))):=by
  obtain ⟨a_n,c_n,rfl,-⟩:=id hn
  obtain ⟨a_c,c_c,rfl,-⟩:=id hc
  obtain ⟨a_t,c_t,rfl,-⟩:=id ht
  have ctk:sl.length≤c_t:=by
    obtain ⟨_,_,e,q2,_⟩:=id ht
    simp only [zaC.injEq] at e
    obtain ⟨-,-,rfl⟩:=e
    exact q2
  have htm:sl.length≤maxLen:=RdK.len ht
  have hlt_:(sl.take (sl.length-16)).length=sl.length-16:=by rw [zah]; omega
  obtain ⟨fm,em⟩:∃ z:List Int,mixV (QaZ key nonce) 1 (sl.take (sl.length-16))=z:=⟨_,rfl⟩
  refine enter 64 [(0,.agg (ints .u8 (key))),(1,.slice a_n nonce.length c_n),(2,.slice a_c ctx.length c_c),(3,.slice a_t sl.length c_t)] Tryd.func25 rfl rfl kj rfl <| sgC fun K3 hK3=>Qar (ints .u8 (key)) 58 4 rfl kj kj fun g4 W1 l4 e1 r4_1=>?_
  have b4:=qT (zbo w).size l4
  refine sg 2 kj <| sgN hK3 <| wp_seq_k fun K5 hK5=>sgC fun K6 hK6=>sg 2 kj <| Qab (.bool false) 16 rfl kj (Qah (u:=.bool ((((nonce.length:Nat):Int) != 12))) kj (congrArg zau (by rw [h]; rfl))) ?_
  refine sg 3 kj <| Qab (.bool false) 20 rfl kj (Qah (u:=.bool (decide (((ctx.length:Nat):Int)>1048592))) kj (congrArg zau (decide_eq_false (by omega)))) <| sg 4 kj <| Qab (.bool false) 25 rfl kj (Qah (u:=.bool (decide (((sl.length:Nat):Int)>1048592))) kj (congrArg zau (decide_eq_false (by omega)))) <| sg 1 kj <| sgN hK6 <| cond_false kj <| wp_skip <| hK5 _ _ <| wp_seq_k fun K7 hK7=>?_
  refine sgC fun K8 hK8=>sg 2 kj <| Qab (.bool false) 30 rfl kj (Qah (u:=.bool (decide (((sl.length:Nat):Int)<16))) kj (congrArg zau (decide_eq_false (by omega)))) <| sgN hK8 <| cond_false kj <| wp_skip <| hK7 _ _ <| wp_seq_k fun K9 hK9=>Qbg 11 [⟨none,[(3,none)]⟩,⟨none,[(3,none)]⟩,⟨none,[(33,some 1)]⟩,⟨none,[(34,some 2)]⟩,⟨none,[(32,some 0),(35,some 3)]⟩,⟨none,[(3,none)]⟩,⟨none,[(3,none)]⟩,⟨none,[(38,some 6)]⟩,⟨none,[(39,some 7)]⟩,⟨none,[(37,some 5),(40,some 8)]⟩,⟨none,[(36,some 4)]⟩] kj kj fun F hF=>Qa8 (Qas _) (.slice a_t sl.length c_t) kj kj (fun _=>kj) ?_
  refine Qa8 (Qas _) (.slice a_t sl.length c_t) kj kj (fun _=>kj) <| Qa8 (Qas _) (.int .i64 ((sl.length:Nat):Int)) kj kj (fun _=>kj) <| Qa8 (Qas _) (.int .i64 (((sl.length-16:Nat):Int))) kj kj (fun W=>(Qah (u:=.int .i64 (zaw.wrap (((sl.length:Nat):Int)-16))) kj (congrArg (zam .i64) (QgM _ hsh htm)))) <| Qa8 (Qas _) (.slice a_t (sl.length-16) c_t) kj kj (fun W=>(QiE (len:=sl.length) 33 _ _ (sl.length-16) 5 rfl kj kj kj .i64 kj (qT (zaD _ _) ctk))) <| Qa8 (Qas _) (.slice a_t sl.length c_t) kj kj (fun _=>kj) <| Qa8 (Qas _) (.slice a_t sl.length c_t) kj kj (fun _=>kj) <| Qa8 (Qas _) (.int .i64 ((sl.length:Nat):Int)) kj kj (fun _=>kj) <| Qa8 (Qas _) (.int .i64 (((sl.length-16:Nat):Int))) kj kj (fun W=>(Qah (u:=.int .i64 (zaw.wrap (((sl.length:Nat):Int)-16))) kj (congrArg (zam .i64) (QgM _ hsh htm)))) <| Qa8 (Qas _) (.slice (QeY a_t c_t (sl.length-16)) (sl.length-(sl.length-16)) (c_t-(sl.length-16))) kj kj (fun W=>(Qei 33 _ _ (sl.length-16) 5 rfl kj kj kj .i64 kj (zaD _ _) ctk)) <| Qa8 (Qas _) (.slice a_t (sl.length-16) c_t) kj kj (fun _=>kj) ?_
  refine QcO (hF _ fun W2 e2=>?_)
  simp only [zan,zao,zap,zaq,zar,zas,finE,up]
  clear hF
  have x2:=zbs (zbs (zbo w) e1) e2
  refine sg 1 kj <| sgN hK9 <| sgC fun K10 hK10=>?_
  have r4_2:=(Qaa r4_1 e2)
  refine Qab (.agg (ints .u8 (key))) 43 rfl kj (Qap 58 _ g4 58 _ _ r4_2 rfl kj kj (isz (n:=32) kj (izT hkl))) <| sg 3 kj ?_
  have r2_2:=(Qaa (Qaa hh e1) e2)
  have r1_2:=(Qaa (Qaa hq e1) e2)
  refine Qau (.tuple #[.agg (ints .u8 (Qd0 key nonce ctx (sl.take (sl.length-16)))),.nilIface]) 34 #[.agg (ints .u8 (key)),.slice a_n nonce.length c_n,.slice a_c ctx.length c_c,.slice a_t (sl.length-16) c_t] 47 rfl kj kj ((QjT key nonce ctx (sl.take (sl.length-16)) _ _ _ _ _ _ th tq _ r2_2 r1_2 hkl (zby hn x2) (zby hc x2) (QhH (zby ht x2) (sl.length-16) (zaD _ _)) h hcb (Qbe htb _) (by omega) (by omega))) fun W3 e3=>?_
  have x3:=zbs x2 e3
  refine sg 3 kj <| Qar (ints .u8 (zat 16 0)) 84 12 rfl kj kj fun g11 W4 l11 e4 r11_4=>Qan g11 _ (ints .u8 (Qd0 key nonce ctx (sl.take (sl.length-16)))) 84 r11_4 rfl kj (Qao 84 _ _ g11 84 _ _ r11_4 rfl kj kj (isz (n:=16) kj (izT (Qb8 _ _ _ _))) (eqsz (n:=16) (izT (qZ (n:=16))) (izT (Qb8 _ _ _ _))) (Qay _ _)) fun W5 p5 r11_5=>?_
  have x5:=zbr p5 (zbs x3 e4) (qT x3.size l11)
  refine sg 1 kj <| sgN hK10 <| wp_seq_k fun K12 hK12=>sgB kj <| cond_false kj <| wp_skip <| hK12 _ _ <| wp_seq_k fun K14 hK14=>sgC fun K15 hK15=>sg 2 kj ?_
  refine Qau (.bool true) 39 #[.slice (some ⟨g11,0,none⟩) 16 16,.slice (QeY a_t c_t (sl.length-16)) (sl.length-(sl.length-16)) (c_t-(sl.length-16))] 55 rfl kj kj ((QkS (Qd0 key nonce ctx (sl.take (sl.length-16))) (sl.drop (sl.length-16)) _ _ W5.heap.size _ W5 hne (Qbp (xs:=Qd0 key nonce ctx (sl.take (sl.length-16))) (n:=16) (Qb8 _ _ _ _) r11_5 (Qaq r11_5) (show 16≤maxLen from by decide)) (QfM (zby ht x5) (sl.length-16) (zaD _ _)) (Qfn _ _ _ _) (Qb7 htb _) (by rw [zac,Qb8]; omega) (by rw [Qb8]; decide))) fun W6 e6=>?_
  have x6:=zbs x5 e6
  refine sg 1 kj <| sgN hK15 <| cond_false kj <| wp_skip <| hK14 _ _ <| sgC fun K16 hK16=>?_
  have r4_3:=(Qaa r4_2 e3)
  refine Qab (.agg (ints .u8 (key))) 58 rfl kj (Qap 58 _ g4 58 _ _ (Qaa (rpn p5 r4_3 e4 l11) e6) rfl kj kj (isz (n:=32) kj (izT hkl))) <| sg 2 kj ?_
  have r2_3:=(Qaa r2_2 e3)
  have r1_3:=(Qaa r1_2 e3)
  refine Qav (fun v W'=>(MixR W6.heap.size (fm)) v W'∧Ext W6 W') 33 #[.agg (ints .u8 (key)),.slice a_n nonce.length c_n,.int .i64 1,.slice a_t (sl.length-16) c_t] 61 rfl kj kj ((MixE key nonce (sl.take (sl.length-16)) (fm) _ _ _ _ th tq _ (Qaa (rpn p5 r2_3 e4 l11) e6) (Qaa (rpn p5 r1_3 e4 l11) e6) hkl (zby hn x6) (QhH (zby ht x6) (sl.length-16) (zaD _ _)) h (by omega) em).mono (by rintro e w' ⟨v,rfl,e1,hv⟩; exact ⟨v,rfl,hv,e1⟩)) fun vv17 W7 hh17=>?_
  obtain ⟨hv17,e7⟩:=hh17
  obtain ⟨u61_,rfl,hu61_⟩:=hv17
  refine sg 4 kj <| sgN hK16 <| wp_ret ?_
  repeat (first | with_reducible refine goR1 ?_ | with_reducible refine goR2 ?_)
  exact (show bodyPost _ _ _ .ret _ _ from ret2 (u61_) (.nilIface) rfl (Qaz kj) (Qaz kj) ⟨_,rfl,(zbs x6 e7),u61_,rfl,by rw [em]; exact OwnN.base x6.size hu61_⟩)
end Ae
end
section
namespace Sha
open Go Go.RowKit
open Rely Auto Own
theorem QkH (n : Nat) (h0:0<n) (hn:n<32):zaf.wrap (-(n:Int))=18446744073709551616-(n:Int):=by
  have:zaf.wrap (-(n:Int))=(-(n:Int))%2^64:=rfl
  rw [this]; omega
theorem QoZ : ∀ n:Nat,0<n→n<32→bits .and .u64 (18446744073709551616-(n:Int)) 31=((32-n:Nat):Int):=by
  have h:∀ n:Fin 32,0<n.1→bits .and .u64 (18446744073709551616-(n.1:Int)) 31=((32-n.1:Nat):Int):=by decide
  intro n h0 hn
  exact h ⟨n,hn⟩ h0
theorem Qn2 (n : Nat) (hn:n<32):zaf.wrap (32-((32-n:Nat):Int))=((n:Nat):Int):=by
  have:∀ z:Int,zaf.wrap z=z%2^64:=fun _=>rfl
  rw [this]; omega
theorem rotC (x : Wd) (n:Nat) (m:Int) (hm:m=-(n:Int)) (h0:0<n) (hn:n<32) (w:World):Calls Tryd.prog 82 #[.int .u32 (wv x),.int .i64 m] w (Ret w (.int .u32 (wv (rr x n)))):=by
  refine enter 17 [(0,.int .u32 (wv x)),(1,.int .i64 m)] Tryd.func82 rfl rfl kj rfl <| sgB kj <| sgC fun K2 hK2=>sg 1 kj <| Qab (.int .u64 (18446744073709551616-(n:Int))) 7 rfl kj (Qah (u:=.int .u64 (zaf.wrap (m))) kj (congrArg (zam .u64) (by rw [hm]; exact QkH n h0 hn))) ?_
  refine Qab (.int .u64 (((32-n:Nat):Int))) 8 rfl kj (Qah (u:=.int .u64 (bits .and .u64 ((18446744073709551616-(n:Int))) (31))) kj (congrArg (zam .u64) (QoZ n h0 hn))) <| sg 1 kj <| sgN hK2 <| sgC fun K3 hK3=>sg 2 kj <| Qab (.int .u32 (wv (x<<<(32-n)))) 11 rfl kj (QaM .shl _ _ _ _ .u32 .u64 _ _ _ rfl kj kj (Qev _ _ _ _ _ _ (by omega) (Qi1 x _ (32-n) rfl (by omega)))) <| sg 2 kj <| Qab (.int .u64 (((n:Nat):Int))) 14 rfl kj (Qah (u:=.int .u64 (zaf.wrap (32-((32-n:Nat):Int)))) kj (congrArg (zam .u64) (Qn2 n hn))) <| Qab (.int .u32 (wv (x>>>n))) 15 rfl kj (QaM .shr _ _ _ _ .u32 .u64 _ _ _ rfl kj kj (QbW _ _ _ _ _ _ (by omega) (Qi0 x _ n rfl (by omega)))) <| Qab (.int .u32 (wv (((x<<<(32-n)))|||((x>>>n))))) 16 rfl kj (Qah kj (congrArg (zam .u32) (w_or _ _))) ?_
  refine sg 1 kj <| sgN hK3 <| wp_ret ?_
  repeat (first | with_reducible refine goR1 ?_ | with_reducible refine goR2 ?_)
  exact (show bodyPost _ _ _ .ret _ _ from ret1 (.int .u32 (wv (((x<<<(32-n)))|||((x>>>n))))) rfl (Qaz kj) ⟨rfl,(zbo w)⟩)
theorem Qdq (ws : List Wd) (n:Nat):(wmore ws n).length=ws.length+n:=by
  induction n with
  | zero=>rfl
  | succ n ih=>simp [wmore,ih]; omega
theorem QgZ (b : List Int):(w16 b).length=16:=by simp [w16]
theorem QdJ (b : List Int):(w64 b).length=64:=by rw [w64,Qdq,QgZ]
theorem QeS (ws : List Wd) (n m j:Nat) (hj:j<ws.length+n) (hm:n≤m):wget (wmore ws m) j=wget (wmore ws n) j:=by
  induction m with
  | zero =>
    obtain rfl:n=0:=by omega
    rfl
  | succ m ih =>
    rcases Nat.lt_or_ge m n with h | h
    · obtain rfl:n=m+1:=by omega
      rfl
    · rw [←ih h]
      show wget (wmore ws m++_) j=_
      unfold wget
      rw [za1,List.getElem?_append_left (by rw [Qdq]; omega),←za1]
theorem Qiy (ws : List Wd) (n:Nat):wget (wmore ws (n+1)) (ws.length+n)=wnext (wmore ws n):=by
  show wget (wmore ws n++[_]) _=_
  unfold wget
  rw [za1,List.getElem?_append_right (by rw [Qdq]; omega),Qdq,zaE]
  rfl
theorem QkJ (b : List Int) (i:Nat) (h:16≤i) (hi:i<64):wget (w64 b) i=sig1 (wget (w64 b) (i-2))+wget (w64 b) (i-7)+sig0 (wget (w64 b) (i-15))+wget (w64 b) (i-16):=by
  obtain ⟨n,rfl⟩:∃ n,i=16+n:=⟨i-16,by omega⟩
  have hl:=QgZ b
  have g:∀ j,j<16+n→wget (w64 b) j=wget (wmore (w16 b) n) j:=fun j hj=>QeS (w16 b) n 48 j (by omega) (by omega)
  have g1:wget (w64 b) (16+n)=wget (wmore (w16 b) (n+1)) (16+n):=QeS (w16 b) (n+1) 48 _ (by omega) (by omega)
  rw [g1,g _ (by omega),g _ (by omega),g _ (by omega),g _ (by omega)]
  have h2:=Qiy (w16 b) n
  rw [hl] at h2
  rw [h2]
  unfold wnext
  rw [Qdq,hl]
theorem Qmr (b : List Int) (i:Nat) (hi:i<16):wget (w64 b) i=be4 (nth b (4*i)) (nth b (4*i+1)) (nth b (4*i+2)) (nth b (4*i+3)):=by
  have g1:wget (w64 b) i=wget (w16 b) i:=QeS (w16 b) 0 48 i (by rw [QgZ]; omega) (by omega)
  rw [g1]
  unfold wget w16
  rw [za1,za2,za3 hi]
  rfl
def hor (b : List Int) (i:Nat):Nat→Wd
  | 0=>0
  | j+1=>hor b i j<<<8|||za4 32 (nth b (4*i+j))
theorem Ql1 {b : List Int} (hb:Qai b) (i j:Nat):hor b i j<<<8|||za4 32 (nth b (4*i+j))=hor b i (j+1):=rfl
theorem QfR (x : Wd) (n:Int) (h:0≤n∧n≤255):x<<<8|||za4 32 n=za4 32 (wv x*256+n):=by
  have e:x<<<8|||za4 32 n=x<<<8+za4 32 n:=by
    refine (BitVec.add_eq_or_of_and_eq_zero _ _ ?_).symm
    apply BitVec.eq_of_getLsbD_eq
    intro i hi
    simp only [BitVec.getLsbD_and,BitVec.getLsbD_shiftLeft,BitVec.getLsbD_zero]
    rcases Nat.lt_or_ge i 8 with h1 | h1
    · simp [h1]
    · have:(za4 32 n).getLsbD i=false:=by
        have hn:(za4 32 n).toNat<2^i:=by
          have e:(za4 32 n).toNat=n.toNat:=by rw [za5]; omega
          rw [e]
          have:2^8≤2^i:=Nat.pow_le_pow_right (by decide) h1
          omega
        exact BitVec.testBit_toNat _▸Nat.testBit_lt_two_pow hn
      rw [this,Bool.and_false]
  rw [e]
  apply zaF
  rw [BitVec.toNat_add,BitVec.toNat_shiftLeft,Nat.shiftLeft_eq,za5,za5]
  unfold wv
  have:=x.isLt
  omega
theorem hor4 {b : List Int} (hb:Qai b) (i:Nat):hor b i 4=be4 (nth b (4*i)) (nth b (4*i+1)) (nth b (4*i+2)) (nth b (4*i+3)):=by
  have h0:=hb.nth (4*i)
  have h1:=hb.nth (4*i+1)
  have h2:=hb.nth (4*i+2)
  have h3:=hb.nth (4*i+3)
  show ((((0:Wd)<<<8|||za4 32 (nth b (4*i+0)))<<<8|||za4 32 (nth b (4*i+1)))<<<8|||za4 32 (nth b (4*i+2)))<<<8|||za4 32 (nth b (4*i+3))=_
  rw [zaG,QfR _ _ h3,QfR _ _ h2,QfR _ _ h1,QfR _ _ h0]
  unfold be4
  apply zaF
  rw [za5,za5]
  simp only [QeC]
  have:wv 0=0:=rfl
  rw [this]
  omega
theorem QoW {b : List Int} (hb:Qai b) (i:Nat):zaH.wrap (nth b i)=wv (za4 32 (nth b i)):=by rw [wrap32,QeC]
theorem Qkv {b : List Int} {i:Nat} (h:((w64 b).map wv).length=64) (hi:i<64):fill ((w64 b).map wv) 64 i=(fill ((w64 b).map wv) 64 i).set i (wv (hor b i 0)):=by
  have e:nth (fill ((w64 b).map wv) 64 i) i=0:=Qkt h (qR _)
  have h0:wv (hor b i 0)=nth (fill ((w64 b).map wv) 64 i) i:=by rw [e]; rfl
  rw [h0]
  have hl:i<(fill ((w64 b).map wv) 64 i).length:=by rw [Qb2 h (by omega)]; exact hi
  rw [show nth (fill ((w64 b).map wv) 64 i) i=(fill ((w64 b).map wv) 64 i)[i] by simp [nth,hl],List.set_getElem_self]
theorem Qku {b : List Int} {i:Nat} (h:((w64 b).map wv).length=64) (hi:i<16) (hb:Qai b):(fill ((w64 b).map wv) 64 i).set i (wv (hor b i 4))=fill ((w64 b).map wv) 64 (i+1):=by
  rw [←Qc3 h (by omega),QbZ,hor4 hb,Qmr b i hi]
theorem Qmw (b : List Int) (hbl:b.length=64) (hbb:Qai b) (w:World):Calls Tryd.prog 96 #[.agg (ints .u8 b)] w (Ret w (.agg (ints .u32 ((w64 b).map wv)))):=by
 refine enter 81 [(0,.agg (ints .u8 (b)))] Tryd.func96 rfl rfl kj rfl <| sgC fun K1 hK1=>Qar (ints .u8 (b)) 102 1 rfl kj kj fun g2 W1 l2 e1 r2_1=>?_
 have x1:=zbs (zbo w) e1
 have b2:=qT (zbo w).size l2
 refine Qar (ints .u32 (zat 64 0)) 170 2 rfl kj kj fun g3 W2 l3 e2 r3_2=>?_
 have x2:=zbs x1 e2
 refine sgN hK1 <| sgC fun K4 hK4=>Qar (ints .u32 (zat 64 0)) 170 3 rfl kj kj fun g5 W3 l5 e3 r5_3=>?_
 have b5:=qT x2.size l5
 refine sgN hK4 <| wp_seq_k fun K6 hK6=>sgB kj <| wp_block ?_
 have hl64:((w64 b).map wv).length=64:=by rw [zaI,QdJ]
 refine QaF (fun (s1:Nat)=>[(12,.int .i64 ((s1:Nat):Int)),(1,.pointer (some ⟨g2,0,none⟩)),(2,.pointer (some ⟨g3,0,none⟩)),(3,.pointer (some ⟨g5,0,none⟩))]) (fun (s1:Nat) W=>(s1≤16)∧(W.heap[g5]? = some (.cells (ints .u32 (fill ((w64 b).map wv) 64 s1)) 170))∧(Qaf [g5] W3 W)∧(Ext w W)) (fun (s1:Nat)=>16-s1) 0 ⟨kj,kj,kj,kj,trivial⟩ ⟨(zav _),(QaH r5_3 (Qdx _ 64).symm),(zb1 [g5] W3),(zbs x2 e3)⟩ fun s1 X1 V1 hI1=>?_
 obtain ⟨i,hs1⟩:∃ z,z=s1:=⟨_,rfl⟩
 subst hs1
 obtain ⟨hi,q5_1,kk1,xx1⟩:=hI1
 replace hi:i≤16:=hi
 replace q5_1:V1.heap[g5]? = some (.cells (ints .u32 (fill ((w64 b).map wv) 64 i)) 170):=q5_1
 replace kk1:Qaf [g5] W3 V1:=kk1
 replace xx1:Ext w V1:=xx1
 have q4:=kk1
 refine sgB kj <| wp_seq_k fun K9 hK9=>Qa2 (t:=decide (((i:Nat):Int)<16)) kj (fun c10=>?_) (fun c10=>?_)
 ·skip
  have hlt13:i<16:=by have:=of_decide_eq_true c10; omega
  refine wp_skip <| hK9 _ _ <| wp_seq_k fun K11 hK11=>wp_block <| sgB kj <| sgC fun K13 hK13=>sg 1 kj <| Qab (.int .i64 ((4*i:Nat):Int)) 16 rfl kj (Qah (u:=.int .i64 (zaw.wrap (4*((i:Nat):Int)))) kj (congrArg (zam .i64) (i64n _ _ (by omega) (by omega)))) <| sg 1 kj <| Qab (.int .i64 ((4*i:Nat):Int)) 18 rfl kj (Qah (u:=.int .i64 (zaw.wrap (4*((i:Nat):Int)))) kj (congrArg (zam .i64) (i64n _ _ (by omega) (by omega)))) ?_
  refine Qab (.int .i64 (((4*i)+4:Nat):Int)) 19 rfl kj (Qah (u:=.int .i64 (zaw.wrap (((4*i:Nat):Int)+4))) kj (congrArg (zam .i64) (i64n _ _ (by omega) (by omega)))) <| Qab (.slice (some ⟨g2,0+(4*i),none⟩) (((4*i)+4)-(4*i)) (64-(4*i))) 20 rfl kj (Qb3 102 _ _ _ (4*i) ((4*i)+4) 64 g2 0 5 rfl kj kj kj ⟨.i64,by kernel_rfl⟩ ⟨.i64,by kernel_rfl⟩ (by omega) (by omega) (by omega)) <| sg 2 kj <| sgN hK13 <| wp_block <| QaF (fun (s2:Nat)=>[(4,.int .i64 ((i:Nat):Int)),(12,.int .i64 ((i:Nat):Int)),(20,.slice (some ⟨g2,0+(4*i),none⟩) (((4*i)+4)-(4*i)) (64-(4*i))),(21,.int .i64 ((((4*i)+4)-(4*i):Nat):Int)),(22,.int .i64 ((s2:Nat):Int)),(1,.pointer (some ⟨g2,0,none⟩)),(2,.pointer (some ⟨g3,0,none⟩)),(3,.pointer (some ⟨g5,0,none⟩))]) (fun (s2:Nat) W=>(s2≤4)∧(W.heap[g5]? = some (.cells (ints .u32 ((fill ((w64 b).map wv) 64 i).set i (wv (hor b i s2)))) 170))∧(Qaf [g5] V1 W)∧(Ext w W)) (fun (s2:Nat)=>4-s2) 0 ⟨kj,kj,kj,kj,kj,kj,kj,kj,trivial⟩ ⟨(zav _),(QaH q5_1 (Qkv hl64 (by omega))),(zb1 [g5] V1),xx1⟩ fun s2 X2 V2 hI2=>?_
  obtain ⟨j,hs2⟩:∃ z,z=s2:=⟨_,rfl⟩
  subst hs2
  obtain ⟨hj,q5_2,kk2,xx2⟩:=hI2
  replace hj:j≤4:=hj
  replace q5_2:V2.heap[g5]? = some (.cells (ints .u32 ((fill ((w64 b).map wv) 64 i).set i (wv (hor b i j)))) 170):=q5_2
  replace kk2:Qaf [g5] V1 V2:=kk2
  replace xx2:Ext w V2:=xx2
  have q5:=kk2
  refine sgB kj <| wp_seq_k fun K15 hK15=>Qa2 (t:=decide (((j:Nat):Int)<((((4*i)+4)-(4*i):Nat):Int))) kj (fun c16=>?_) (fun c16=>?_)
  ·skip
   have hlt23:j<4:=by have:=of_decide_eq_true c16; omega
   refine wp_skip <| hK15 _ _ <| wp_seq_k fun K17 hK17=>wp_block <| sgC fun K18 hK18=>Qab (.pointer (some ⟨g2,0+(4*i)+j,none⟩)) 24 rfl kj (Qcm 33 _ _ .i64 j g2 (0+(4*i)) (((4*i)+4)-(4*i)) (64-(4*i)) 5 rfl kj kj kj kj (by omega)) ?_
   have r2_2:=(Qaa r2_1 e2)
   refine Qab (.int .u8 (nth b (4*i+j))) 25 rfl kj (Qad 5 _ g2 (0+(4*i)+j) 102 _ (.int .u8 (nth b (4*i+j))) _ (zb2 q5 (zb2 q4 (Qaa r2_2 e3) (Qax (Qag r2_2 l5) QaE)) (Qax (Qag r2_2 l5) QaE)) rfl kj ((QaG _ _ _ (zal (by omega) hbl.symm)).trans (congrArg (fun z=>some (zam .u8 z)) (by rw [Nat.zero_add]))) kj) <| sg 1 kj <| sgN hK18 <| Qae <| sg 2 kj <| Qab (.pointer (some ⟨g5,i,none⟩)) 28 rfl kj (QaC _ _ _ .i64 (i) _ 64 119 rfl kj kj kj kj (by omega)) <| Qab (.int .u32 (wv (hor b i j))) 29 rfl kj (Qad 119 _ g5 i 170 _ (.int .u32 (wv (hor b i j))) _ q5_2 rfl kj ((QaG _ _ _ (zal (by omega) ((zai ..).trans (Qb2 hl64 (by omega))).symm)).trans (congrArg (fun z=>some (zam .u32 z)) (Qg8 (by rw [Qb2 hl64 (by omega)]; omega)))) kj) ?_
   refine Qab (.int .u32 (wv (hor b i j<<<8))) 30 rfl kj (QaM .shl _ _ _ _ .u32 .u64 _ _ _ rfl kj kj (Qev _ _ _ _ _ _ (by decide) (Qi1 _ _ 8 rfl (by decide)))) <| sg 1 kj <| Qab (.int .u32 (wv (za4 32 (nth b (4*i+j))))) 32 rfl kj (Qah (u:=.int .u32 (zaH.wrap (nth b (4*i+j)))) kj (congrArg (zam .u32) (QoW hbb _))) <| Qab (.int .u32 (wv (((hor b i j<<<8))|||((za4 32 (nth b (4*i+j))))))) 33 rfl kj (Qah kj (congrArg (zam .u32) (w_or _ _))) <| Qab (.pointer (some ⟨g5,i,none⟩)) 34 rfl kj (QaC _ _ _ .i64 (i) _ 64 119 rfl kj kj kj kj (by omega)) <| Qan g5 _ (ints .u32 (((fill ((w64 b).map wv) 64 i).set i (wv (hor b i j))).set i (wv (((hor b i j<<<8))|||((za4 32 (nth b (4*i+j)))))))) 170 q5_2 rfl kj (Qa1 119 _ _ g5 i 170 _ _ q5_2 rfl kj kj kj (zal (by omega) ((zai ..).trans (Qb2 hl64 (by omega))).symm)) fun W6 p6 r5_6=>?_
   have x6:=zbr p6 xx2 b5
   refine Qal <| hK17 _ _ <| Qae <| Qab (.int .i64 ((j+1:Nat):Int)) 35 rfl kj (Qah (u:=.int .i64 (zaw.wrap (((j:Nat):Int)+1))) kj (congrArg (zam .i64) (i64n _ _ (by omega) (by omega)))) <| sg 1 kj <| Qal ?_
   repeat (first | with_reducible refine goX1 ?_ | with_reducible refine goX2 ?_ | with_reducible refine goX3 ?_)
   exact Qa5 (j+1) ⟨kj,kj,kj,kj,kj,kj,kj,kj,trivial⟩ ⟨(by omega),(QaH r5_6 (by rw [List.set_set]; exact congrArg (fun z=>(fill ((w64 b).map wv) 64 i).set i (wv z)) (Ql1 hbb i j))),(zb4 q5 p6 (.inl (by simp))),x6⟩ (by omega)
  ·skip
   have heq23:j=4:=by have:=of_decide_eq_false c16; omega
   refine wp_exit <| hK11 _ _ <| Qae <| Qab (.int .i64 ((i+1:Nat):Int)) 36 rfl kj (Qah (u:=.int .i64 (zaw.wrap (((i:Nat):Int)+1))) kj (congrArg (zam .i64) (i64n _ _ (by omega) (by omega)))) <| sg 1 kj <| Qal ?_
   repeat (first | with_reducible refine goX1 ?_ | with_reducible refine goX2 ?_ | with_reducible refine goX3 ?_)
   exact Qa5 (i+1) ⟨kj,kj,kj,kj,trivial⟩ ⟨(by omega),(QaH q5_2 (by rw [heq23]; exact Qku hl64 hlt13 hbb)),(Qaf.keeps q4 q5 (QfS (.inl (by simp)) QhR)),xx2⟩ (by omega)
 ·skip
  have heq13:i=16:=by have:=of_decide_eq_false c10; omega
  refine wp_exit <| hK6 _ _ <| wp_seq_k fun K19 hK19=>sgB kj <| wp_block <| QaF (fun (s3:Nat)=>[(7,.int .i64 ((s3:Nat):Int)),(1,.pointer (some ⟨g2,0,none⟩)),(2,.pointer (some ⟨g3,0,none⟩)),(3,.pointer (some ⟨g5,0,none⟩))]) (fun (s3:Nat) W=>(16≤s3)∧(s3≤64)∧(W.heap[g5]? = some (.cells (ints .u32 (fill ((w64 b).map wv) 64 s3)) 170))∧(Qaf [g5] V1 W)∧(Ext w W)) (fun (s3:Nat)=>64-s3) 16 ⟨kj,kj,kj,kj,trivial⟩ ⟨(qR _),(by omega),(QaH q5_1 (by rw [heq13])),(zb1 [g5] V1),xx1⟩ fun s3 X3 V3 hI3=>?_
  obtain ⟨i,hs3⟩:∃ z,z=s3:=⟨_,rfl⟩
  subst hs3
  obtain ⟨h16,hi,q5_3,kk3,xx3⟩:=hI3
  replace h16:16≤i:=h16
  replace hi:i≤64:=hi
  replace q5_3:V3.heap[g5]? = some (.cells (ints .u32 (fill ((w64 b).map wv) 64 i)) 170):=q5_3
  replace kk3:Qaf [g5] V1 V3:=kk3
  replace xx3:Ext w V3:=xx3
  have q5:=kk3
  refine wp_seq_k fun K21 hK21=>sgB kj <| Qa2 (t:=decide (((i:Nat):Int)<64)) kj (fun c23=>?_) (fun c23=>?_)
  ·skip
   have hlt38:i<64:=by have:=of_decide_eq_true c23; omega
   refine wp_skip <| hK21 _ _ <| wp_seq_k fun K24 hK24=>wp_block <| wp_seq_k fun K25 hK25=>QaL 9 [⟨none,[(7,none)]⟩,⟨none,[(41,some 0)]⟩,⟨none,[(3,none),(42,some 1)]⟩,⟨none,[(43,some 2)]⟩,⟨none,[(7,none)]⟩,⟨none,[(45,some 4)]⟩,⟨none,[(3,none),(46,some 5)]⟩,⟨none,[(47,some 6)]⟩,⟨none,[(44,some 3)]⟩] kj kj fun F hF=>Qak (.int .i64 ((i:Nat):Int)) kj kj (fun _=>kj) <| Qak (.int .i64 ((i-2:Nat):Int)) kj kj (fun W=>(Qah (u:=.int .i64 (zaw.wrap (((i:Nat):Int)-2))) kj (congrArg (zam .i64) (i64n _ _ (by omega) (by omega))))) <| Qak (.pointer (some ⟨g5,i-2,none⟩)) kj kj (fun W=>(QaC _ _ _ .i64 (i-2) _ 64 119 rfl kj kj kj kj (by omega))) <| Qa7 (.int .u32 (wv (wget (w64 b) (i-2)))) kj kj (fun W hR=>(Qad 119 _ g5 (i-2) 170 _ (.int .u32 (wv (wget (w64 b) (i-2)))) _ (Qaa (Qaa q5_3 (Qaj _)) hR) rfl kj ((QaG _ _ _ (zal (by omega) (Qb2 (show ((w64 b).map wv).length=64 by rw [zaI,QdJ]) (by omega)).symm)).trans (congrArg (fun z=>some (zam .u32 z)) ((QeN hl64 (by omega) (by omega)).trans (QbZ _ _)))) kj)) ?_
   refine Qak (.int .i64 ((i:Nat):Int)) kj kj (fun _=>kj) <| Qak (.int .i64 ((i-15:Nat):Int)) kj kj (fun W=>(Qah (u:=.int .i64 (zaw.wrap (((i:Nat):Int)-15))) kj (congrArg (zam .i64) (i64n _ _ (by omega) (by omega))))) <| Qak (.pointer (some ⟨g5,i-15,none⟩)) kj kj (fun W=>(QaC _ _ _ .i64 (i-15) _ 64 119 rfl kj kj kj kj (by omega))) <| Qa7 (.int .u32 (wv (wget (w64 b) (i-15)))) kj kj (fun W hR=>(Qad 119 _ g5 (i-15) 170 _ (.int .u32 (wv (wget (w64 b) (i-15)))) _ (Qaa (Qaa q5_3 (Qaj _)) hR) rfl kj ((QaG _ _ _ (zal (by omega) (Qb2 (show ((w64 b).map wv).length=64 by rw [zaI,QdJ]) (by omega)).symm)).trans (congrArg (fun z=>some (zam .u32 z)) ((QeN hl64 (by omega) (by omega)).trans (QbZ _ _)))) kj)) <| Qak (.int .u32 (wv (wget (w64 b) (i-2)))) kj kj (fun _=>kj) <| QaQ (hF _ kj fun W6 e6=>?_)
   simp only [ups,up,Kn.val,zap,zaq,zar,zas,zan,zao]
   clear hF
   have x6:=zbs xx3 e6
   refine sg 1 kj <| sgN hK25 <| sgC fun K26 hK26=>sg 1 kj <| Qau (.int .u32 (wv (rr (wget (w64 b) (i-2)) 17))) 82 #[.int .u32 (wv (wget (w64 b) (i-2))),.int .i64 (-17)] 50 rfl kj kj ((rotC (wget (w64 b) (i-2)) 17 (-17) (by decide) (by decide) (by decide)) _) fun W7 e7=>sg 1 kj <| Qau (.int .u32 (wv (rr (wget (w64 b) (i-2)) 19))) 82 #[.int .u32 (wv (wget (w64 b) (i-2))),.int .i64 (-19)] 52 rfl kj kj ((rotC (wget (w64 b) (i-2)) 19 (-19) (by decide) (by decide) (by decide)) _) fun W8 e8=>Qab (.int .u32 (wv (((rr (wget (w64 b) (i-2)) 17))^^^((rr (wget (w64 b) (i-2)) 19))))) 53 rfl kj (Qah kj (congrArg (zam .u32) (w_xor _ _))) <| sg 1 kj <| Qab (.int .u32 (wv (((wget (w64 b) (i-2)))>>>10))) 55 rfl kj (QaM .shr _ _ _ _ .u32 .u64 _ _ _ rfl kj kj (QbW _ _ _ _ _ _ (by decide) (Qi0 _ _ 10 rfl (by decide)))) ?_
   refine Qab (.int .u32 (wv (((((rr (wget (w64 b) (i-2)) 17))^^^((rr (wget (w64 b) (i-2)) 19))))^^^((((wget (w64 b) (i-2)))>>>10))))) 56 rfl kj (Qah kj (congrArg (zam .u32) (w_xor _ _))) <| sg 1 kj <| sgN hK26 <| sgC fun K27 hK27=>sg 1 kj <| Qau (.int .u32 (wv (rr (wget (w64 b) (i-15)) 7))) 82 #[.int .u32 (wv (wget (w64 b) (i-15))),.int .i64 (-7)] 58 rfl kj kj ((rotC (wget (w64 b) (i-15)) 7 (-7) (by decide) (by decide) (by decide)) _) fun W9 e9=>sg 1 kj <| Qau (.int .u32 (wv (rr (wget (w64 b) (i-15)) 18))) 82 #[.int .u32 (wv (wget (w64 b) (i-15))),.int .i64 (-18)] 60 rfl kj kj ((rotC (wget (w64 b) (i-15)) 18 (-18) (by decide) (by decide) (by decide)) _) fun W10 e10=>Qab (.int .u32 (wv (((rr (wget (w64 b) (i-15)) 7))^^^((rr (wget (w64 b) (i-15)) 18))))) 61 rfl kj (Qah kj (congrArg (zam .u32) (w_xor _ _))) <| sg 1 kj ?_
   refine Qab (.int .u32 (wv (((wget (w64 b) (i-15)))>>>3))) 63 rfl kj (QaM .shr _ _ _ _ .u32 .u64 _ _ _ rfl kj kj (QbW _ _ _ _ _ _ (by decide) (Qi0 _ _ 3 rfl (by decide)))) <| Qab (.int .u32 (wv (((((rr (wget (w64 b) (i-15)) 7))^^^((rr (wget (w64 b) (i-15)) 18))))^^^((((wget (w64 b) (i-15)))>>>3))))) 64 rfl kj (Qah kj (congrArg (zam .u32) (w_xor _ _))) <| sg 1 kj <| sgN hK27 <| QaL 15 [⟨none,[(7,none)]⟩,⟨none,[(10,none)]⟩,⟨none,[(7,none)]⟩,⟨none,[(67,some 2)]⟩,⟨none,[(3,none),(68,some 3)]⟩,⟨none,[(69,some 4)]⟩,⟨none,[(66,some 1),(70,some 5)]⟩,⟨none,[(11,none)]⟩,⟨none,[(71,some 6),(72,some 7)]⟩,⟨none,[(7,none)]⟩,⟨none,[(74,some 9)]⟩,⟨none,[(3,none),(75,some 10)]⟩,⟨none,[(76,some 11)]⟩,⟨none,[(73,some 8),(77,some 12)]⟩,⟨none,[(3,none),(65,some 0)]⟩] kj kj fun F hF=>Qak (.int .i64 ((i:Nat):Int)) kj kj (fun _=>kj) <| Qak (.int .u32 (wv (((((rr (wget (w64 b) (i-2)) 17))^^^((rr (wget (w64 b) (i-2)) 19))))^^^((((wget (w64 b) (i-2)))>>>10))))) kj kj (fun _=>kj) <| Qak (.int .i64 ((i:Nat):Int)) kj kj (fun _=>kj) <| Qak (.int .i64 ((i-7:Nat):Int)) kj kj (fun W=>(Qah (u:=.int .i64 (zaw.wrap (((i:Nat):Int)-7))) kj (congrArg (zam .i64) (i64n _ _ (by omega) (by omega))))) <| Qak (.pointer (some ⟨g5,i-7,none⟩)) kj kj (fun W=>(QaC _ _ _ .i64 (i-7) _ 64 119 rfl kj kj kj kj (by omega))) ?_
   have r5_6:=(Qaa q5_3 e6)
   have r5_10:=(Qaa (Qaa (Qaa (Qaa r5_6 e7) e8) e9) e10)
   refine Qa7 (.int .u32 (wv (wget (w64 b) (i-7)))) kj kj (fun W hR=>(Qad 119 _ g5 (i-7) 170 _ (.int .u32 (wv (wget (w64 b) (i-7)))) _ (Qaa (Qaa r5_10 (Qaj _)) hR) rfl kj ((QaG _ _ _ (zal (by omega) (Qb2 (show ((w64 b).map wv).length=64 by rw [zaI,QdJ]) (by omega)).symm)).trans (congrArg (fun z=>some (zam .u32 z)) ((QeN hl64 (by omega) (by omega)).trans (QbZ _ _)))) kj)) <| Qak (.int .u32 (wv (((((((rr (wget (w64 b) (i-2)) 17))^^^((rr (wget (w64 b) (i-2)) 19))))^^^((((wget (w64 b) (i-2)))>>>10))))+((wget (w64 b) (i-7)))))) kj kj (fun W=>(Qah kj (congrArg (zam .u32) (QdG _ _)))) <| Qak (.int .u32 (wv (((((rr (wget (w64 b) (i-15)) 7))^^^((rr (wget (w64 b) (i-15)) 18))))^^^((((wget (w64 b) (i-15)))>>>3))))) kj kj (fun _=>kj) <| Qak (.int .u32 (wv (((((((((rr (wget (w64 b) (i-2)) 17))^^^((rr (wget (w64 b) (i-2)) 19))))^^^((((wget (w64 b) (i-2)))>>>10))))+((wget (w64 b) (i-7)))))+((((((rr (wget (w64 b) (i-15)) 7))^^^((rr (wget (w64 b) (i-15)) 18))))^^^((((wget (w64 b) (i-15)))>>>3))))))) kj kj (fun W=>(Qah kj (congrArg (zam .u32) (QdG _ _)))) <| Qak (.int .i64 ((i:Nat):Int)) kj kj (fun _=>kj) <| Qak (.int .i64 ((i-16:Nat):Int)) kj kj (fun W=>(Qah (u:=.int .i64 (zaw.wrap (((i:Nat):Int)-16))) kj (congrArg (zam .i64) (i64n _ _ (by omega) (by omega))))) <| Qak (.pointer (some ⟨g5,i-16,none⟩)) kj kj (fun W=>(QaC _ _ _ .i64 (i-16) _ 64 119 rfl kj kj kj kj (by omega))) <| Qa7 (.int .u32 (wv (wget (w64 b) (i-16)))) kj kj (fun W hR=>(Qad 119 _ g5 (i-16) 170 _ (.int .u32 (wv (wget (w64 b) (i-16)))) _ (Qaa (Qaa r5_10 (Qaj _)) hR) rfl kj ((QaG _ _ _ (zal (by omega) (Qb2 (show ((w64 b).map wv).length=64 by rw [zaI,QdJ]) (by omega)).symm)).trans (congrArg (fun z=>some (zam .u32 z)) ((QeN hl64 (by omega) (by omega)).trans (QbZ _ _)))) kj)) <| Qak (.int .u32 (wv (((((((((((rr (wget (w64 b) (i-2)) 17))^^^((rr (wget (w64 b) (i-2)) 19))))^^^((((wget (w64 b) (i-2)))>>>10))))+((wget (w64 b) (i-7)))))+((((((rr (wget (w64 b) (i-15)) 7))^^^((rr (wget (w64 b) (i-15)) 18))))^^^((((wget (w64 b) (i-15)))>>>3))))))+((wget (w64 b) (i-16)))))) kj kj (fun W=>(Qah kj (congrArg (zam .u32) (QdG _ _)))) <| Qak (.pointer (some ⟨g5,i,none⟩)) kj kj (fun W=>(QaC _ _ _ .i64 (i) _ 64 119 rfl kj kj kj kj (by omega))) ?_
   refine QaQ (hF _ kj fun W11 e11=>?_)
   simp only [ups,up,Kn.val,zap,zaq,zar,zas,zan,zao]
   clear hF
   have r5_11:=(Qaa r5_10 e11)
   refine Qan g5 _ (ints .u32 ((fill ((w64 b).map wv) 64 i).set i (wv (((((((((((rr (wget (w64 b) (i-2)) 17))^^^((rr (wget (w64 b) (i-2)) 19))))^^^((((wget (w64 b) (i-2)))>>>10))))+((wget (w64 b) (i-7)))))+((((((rr (wget (w64 b) (i-15)) 7))^^^((rr (wget (w64 b) (i-15)) 18))))^^^((((wget (w64 b) (i-15)))>>>3))))))+((wget (w64 b) (i-16))))))) 170 r5_11 rfl kj (Qa1 119 _ _ g5 i 170 _ _ r5_11 rfl kj kj kj (zal (by omega) (Qb2 (show ((w64 b).map wv).length=64 by rw [zaI,QdJ]) (by omega)).symm)) fun W12 p12 r5_12=>Qal <| hK24 _ _ <| Qae <| sg 1 kj <| Qab (.int .i64 ((i+1:Nat):Int)) 40 rfl kj (Qah (u:=.int .i64 (zaw.wrap (((i:Nat):Int)+1))) kj (congrArg (zam .i64) (i64n _ _ (by omega) (by omega)))) <| sg 1 kj <| Qal ?_
   repeat (first | with_reducible refine goX1 ?_ | with_reducible refine goX2 ?_ | with_reducible refine goX3 ?_)
   exact Qa5 (i+1) ⟨kj,kj,kj,kj,trivial⟩ ⟨(by omega),(by omega),(QaH r5_12 (by rw [←Qc3 hl64 hlt38,QbZ,QkJ b i h16 hlt38]; rfl)),(zb4 (zb3 (zb3 (zb3 (zb3 (zb3 (zb3 q5 e6) e7) e8) e9) e10) e11) p12 (.inl (by simp))),(zbr p12 (zbs (zbs (zbs (zbs (zbs x6 e7) e8) e9) e10) e11) b5)⟩ (by omega)
  ·skip
   have heq38:i=64:=by have:=of_decide_eq_false c23; omega
   have r5_5_28:V3.heap[g5]? = some (.cells (ints .u32 ((w64 b).map wv)) 170):=QaH q5_3 (by rw [heq38]; exact QcW hl64)
   refine wp_exit <| hK19 _ _ <| sgC fun K29 hK29=>Qab (.agg (ints .u32 ((w64 b).map wv))) 80 rfl kj (Qap 170 _ g5 170 _ _ r5_5_28 rfl kj kj (isz (n:=64) kj (izT hl64))) ?_
   have r3_5:=(zb2 q5 (zb2 q4 (Qaa r3_2 e3) (Qax (Qag r3_2 l5) QaE)) (Qax (Qag r3_2 l5) QaE))
   refine Qan g3 _ (ints .u32 ((w64 b).map wv)) 170 r3_5 rfl kj (Qao 170 _ _ g3 170 _ _ r3_5 rfl kj kj (isz (n:=64) kj (izT hl64)) (eqsz (n:=64) (izT (qZ (n:=64))) (izT hl64)) (Qay _ _)) fun W6 p6 r3_6=>?_
   have x6:=zbr p6 xx3 (qT x1.size l3)
   refine sgN hK29 <| wp_ret ?_
   repeat (first | with_reducible refine goR1 ?_ | with_reducible refine goR2 ?_)
   exact (show bodyPost _ _ _ .ret _ _ from ret1 (.agg (ints .u32 ((w64 b).map wv))) rfl (QaP g3 170 _ r3_6 kj kj (isz (n:=64) kj (izT hl64))) ⟨rfl,x6⟩)
end Sha
end
section
namespace Sha
open Go Go.RowKit
open Rely Auto Own
def QaR : List Int:=Qml.map Int.ofNat
def Qa9 : List Int:=[0x6a09e667f3bcc908,0xbb67ae8584caa73b,0x3c6ef372fe94f82b,0xa54ff53a5f1d36f1,0x510e527fade682d1,0x9b05688c2b3e6c1f,0x1f83d9abfb41bd6b,0x5be0cd19137e2179]
theorem Qoj (i : Nat) (h:i<64):zaH.wrap (nth QaR i/4294967296)=wv (wget KK i):=by
  have:∀ i:Fin 64,zaH.wrap (nth QaR i.1/4294967296)=wv (wget KK i.1):=by decide +kernel
  exact this ⟨i,h⟩
theorem Qn8 (n : Int):n.fdiv (2^min (32:Int).toNat zaf.bits)=n/4294967296:=zag n (by decide)
def mixW (p q:List Wd) (i:Nat):List Wd:=(List.zipWith (· + ·) p q).take i++p.drop i
theorem QjS (s r:S8) {i:Nat} (hi:i≤8):((mixW s.l r.l i).map wv).length=8:=by
  rcases (show i=0∨i=1∨i=2∨i=3∨i=4∨i=5∨i=6∨i=7∨i=8 by omega) with rfl | rfl | rfl | rfl | rfl | rfl | rfl | rfl | rfl <;> rfl
theorem QmK (s r:S8) {i:Nat} (hi:i<8):nth ((mixW s.l r.l i).map wv) i=wv (wget s.l i):=by
  rcases (show i=0∨i=1∨i=2∨i=3∨i=4∨i=5∨i=6∨i=7 by omega) with rfl | rfl | rfl | rfl | rfl | rfl | rfl | rfl <;> rfl
theorem QmI (s r:S8) {i:Nat} (hi:i<8):((mixW s.l r.l i).map wv).set i (wv (wget s.l i+wget r.l i))=(mixW s.l r.l (i+1)).map wv:=by
  rcases (show i=0∨i=1∨i=2∨i=3∨i=4∨i=5∨i=6∨i=7 by omega) with rfl | rfl | rfl | rfl | rfl | rfl | rfl | rfl <;> rfl
theorem Qow (g : Nat) (s:S8) (b:List Int) (hbl:b.length=64) (hbb:Qai b) (m:Int) (tc:TypeId) (w:World) (hc:w.heap[4]? = some (.cells (ints .u64 QaR) tc)) (hg:w.heap[g]? = some (.cells (cat [ints .u32 ([wv s.a,wv s.b,wv s.c,wv s.d,wv s.e,wv s.f,wv s.g,wv s.h]),ints .u8 (b),#[.int .i64 m]]) 167)) :
  Calls Tryd.prog 94 #[.pointer (some ⟨g,0,none⟩)] w (fun e W=>e=.returned (.tuple #[])∧ExtB g w W∧W.heap[g]? = some (.cells (cat [ints .u32 ((blk s b).l.map wv),ints .u8 b,#[.int .i64 m]]) 167)):=by
 have hl64:((w64 b).map wv).length=64:=by rw [zaI,QdJ]
 refine enter 137 [(0,.pointer (some ⟨g,0,none⟩))] Tryd.func94 rfl rfl kj rfl <| sgC fun K3 hK3=>sg 3 kj <| Qab (.agg (ints .u8 (b))) 23 rfl kj (Qa0 102 _ g 8 167 _ _ _ hg rfl kj (Qam [ints .u32 ([wv s.a,wv s.b,wv s.c,wv s.d,wv s.e,wv s.f,wv s.g,wv s.h])] [ints .u8 (b)] [#[.int .i64 m]] 8 kj) kj (isz (n:=64) kj (izT hbl))) <| Qau (.agg (ints .u32 ((w64 b).map wv))) 96 #[.agg (ints .u8 (b))] 24 rfl kj kj ((Qmw b hbl hbb) _) fun W1 e1=>?_
 have x1:=zbu (zbt g w) e1
 refine Qar (ints .u32 (zat 64 0)) 170 2 rfl kj kj fun g4 W2 l4 e2 r4_2=>Qan g4 _ (ints .u32 ((w64 b).map wv)) 170 r4_2 rfl kj (Qao 170 _ _ g4 170 _ _ r4_2 rfl kj kj (isz (n:=64) kj (izT hl64)) (eqsz (n:=64) (izT (qZ (n:=64))) (izT hl64)) (Qay _ _)) fun W3 p3 r4_3=>?_
 have x3:=zb0 (zbu x1 e2) p3 (qT x1.size l4)
 refine sgN hK3 <| sgC fun K5 hK5=>sg 3 kj ?_
 have r2_1:=(Qaa hg e1)
 have r2_3:=(rpn p3 r2_1 e2 l4)
 refine Qab (.agg (ints .u32 ([wv s.a,wv s.b,wv s.c,wv s.d,wv s.e,wv s.f,wv s.g,wv s.h]))) 28 rfl kj (Qa0 165 _ g 0 167 _ _ _ r2_3 rfl kj (Qam [] [ints .u32 ([wv s.a,wv s.b,wv s.c,wv s.d,wv s.e,wv s.f,wv s.g,wv s.h])] [ints .u8 (b),#[.int .i64 m]] 0 kj) kj (isz (n:=8) kj kj)) <| Qar (ints .u32 ([0,0,0,0,0,0,0,0])) 165 3 rfl kj kj fun g6 W4 l6 e4 r6_4=>Qan g6 _ (ints .u32 ([wv s.a,wv s.b,wv s.c,wv s.d,wv s.e,wv s.f,wv s.g,wv s.h])) 165 r6_4 rfl kj (Qao 165 _ _ g6 165 _ _ r6_4 rfl kj kj (isz (n:=8) kj kj) (eqsz (n:=8) kj kj) (Qay _ _)) fun W5 p5 r6_5=>sgN hK5 <| wp_seq_k fun K7 hK7=>QaL 23 [⟨none,[(3,none)]⟩,⟨none,[(29,some 0)]⟩,⟨none,[(3,none)]⟩,⟨none,[(31,some 2)]⟩,⟨none,[(3,none)]⟩,⟨none,[(33,some 4)]⟩,⟨none,[(3,none)]⟩,⟨none,[(35,some 6)]⟩,⟨none,[(3,none)]⟩,⟨none,[(37,some 8)]⟩,⟨none,[(3,none)]⟩,⟨none,[(39,some 10)]⟩,⟨none,[(3,none)]⟩,⟨none,[(41,some 12)]⟩,⟨none,[(3,none)]⟩,⟨none,[(43,some 14)]⟩,⟨none,[(30,some 1)]⟩,⟨none,[(32,some 3)]⟩,⟨none,[(34,some 5)]⟩,⟨none,[(36,some 7)]⟩,⟨none,[(38,some 9)]⟩,⟨none,[(40,some 11)]⟩,⟨none,[(42,some 13)]⟩] kj kj fun F hF=>Qak (.pointer (some ⟨g6,0,none⟩)) kj kj (fun _=>kj) <| Qa7 (.int .u32 (wv s.a)) kj kj (fun W hR=>(Qad 119 _ g6 0 165 _ (.int .u32 (wv s.a)) _ (Qaa (Qaa r6_5 (Qaj _)) hR) rfl kj kj kj)) <| Qak (.pointer (some ⟨g6,1,none⟩)) kj kj (fun _=>kj) <| Qa7 (.int .u32 (wv s.b)) kj kj (fun W hR=>(Qad 119 _ g6 1 165 _ (.int .u32 (wv s.b)) _ (Qaa (Qaa r6_5 (Qaj _)) hR) rfl kj kj kj)) ?_
 refine Qak (.pointer (some ⟨g6,2,none⟩)) kj kj (fun _=>kj) <| Qa7 (.int .u32 (wv s.c)) kj kj (fun W hR=>(Qad 119 _ g6 2 165 _ (.int .u32 (wv s.c)) _ (Qaa (Qaa r6_5 (Qaj _)) hR) rfl kj kj kj)) <| Qak (.pointer (some ⟨g6,3,none⟩)) kj kj (fun _=>kj) <| Qa7 (.int .u32 (wv s.d)) kj kj (fun W hR=>(Qad 119 _ g6 3 165 _ (.int .u32 (wv s.d)) _ (Qaa (Qaa r6_5 (Qaj _)) hR) rfl kj kj kj)) <| Qak (.pointer (some ⟨g6,4,none⟩)) kj kj (fun _=>kj) <| Qa7 (.int .u32 (wv s.e)) kj kj (fun W hR=>(Qad 119 _ g6 4 165 _ (.int .u32 (wv s.e)) _ (Qaa (Qaa r6_5 (Qaj _)) hR) rfl kj kj kj)) <| Qak (.pointer (some ⟨g6,5,none⟩)) kj kj (fun _=>kj) <| Qa7 (.int .u32 (wv s.f)) kj kj (fun W hR=>(Qad 119 _ g6 5 165 _ (.int .u32 (wv s.f)) _ (Qaa (Qaa r6_5 (Qaj _)) hR) rfl kj kj kj)) <| Qak (.pointer (some ⟨g6,6,none⟩)) kj kj (fun _=>kj) <| Qa7 (.int .u32 (wv s.g)) kj kj (fun W hR=>(Qad 119 _ g6 6 165 _ (.int .u32 (wv s.g)) _ (Qaa (Qaa r6_5 (Qaj _)) hR) rfl kj kj kj)) ?_
 refine Qak (.pointer (some ⟨g6,7,none⟩)) kj kj (fun _=>kj) <| Qa7 (.int .u32 (wv s.h)) kj kj (fun W hR=>(Qad 119 _ g6 7 165 _ (.int .u32 (wv s.h)) _ (Qaa (Qaa r6_5 (Qaj _)) hR) rfl kj kj kj)) <| Qak (.int .u32 (wv s.a)) kj kj (fun _=>kj) <| Qak (.int .u32 (wv s.b)) kj kj (fun _=>kj) <| Qak (.int .u32 (wv s.c)) kj kj (fun _=>kj) <| Qak (.int .u32 (wv s.d)) kj kj (fun _=>kj) <| Qak (.int .u32 (wv s.e)) kj kj (fun _=>kj) <| Qak (.int .u32 (wv s.f)) kj kj (fun _=>kj) <| Qak (.int .u32 (wv s.g)) kj kj (fun _=>kj) <| QaQ (hF _ kj fun W6 e6=>?_)
 simp only [ups,up,Kn.val,zap,zaq,zar,zas,zan,zao]
 clear hF
 refine sg 1 kj <| sgN hK7 <| wp_seq_k fun K8 hK8=>sgC fun K9 hK9=>Qab (.agg (ints .u32 ((w64 b).map wv))) 45 rfl kj (Qap 170 _ g4 170 _ _ (Qaa (rpn p5 r4_3 e4 l6) e6) rfl kj kj (isz (n:=64) kj (izT hl64))) <| sg 1 kj <| sgN hK9 <| wp_block <| QaF (fun (s1:Nat)=>[(0,.pointer (some ⟨g,0,none⟩)),(45,.agg (ints .u32 ((w64 b).map wv))),(46,.int .i64 ((s1:Nat):Int)),(4,.int .u32 (wv ((rnds KK (w64 b) s s1).a))),(5,.int .u32 (wv ((rnds KK (w64 b) s s1).b))),(6,.int .u32 (wv ((rnds KK (w64 b) s s1).c))),(7,.int .u32 (wv ((rnds KK (w64 b) s s1).d))),(8,.int .u32 (wv ((rnds KK (w64 b) s s1).e))),(9,.int .u32 (wv ((rnds KK (w64 b) s s1).f))),(10,.int .u32 (wv ((rnds KK (w64 b) s s1).g))),(11,.int .u32 (wv ((rnds KK (w64 b) s s1).h)))]) (fun (s1:Nat) W=>(s1≤64)∧(Ext W6 W)∧(ExtB g w W)) (fun (s1:Nat)=>64-s1) 0 ⟨kj,kj,kj,kj,kj,kj,kj,kj,kj,kj,kj,trivial⟩ ⟨(zav _),(zbo W6),(zbu (zb0 (zbu x3 e4) p5 (qT x3.size l6)) e6)⟩ fun s1 X1 V1 hI1=>?_
 obtain ⟨i,hs1⟩:∃ z,z=s1:=⟨_,rfl⟩
 subst hs1
 obtain ⟨hi,kk1,xx1⟩:=hI1
 replace hi:i≤64:=hi
 replace kk1:Ext W6 V1:=kk1
 replace xx1:ExtB g w V1:=xx1
 have e7:=kk1
 refine sgB kj <| wp_seq_k fun K11 hK11=>Qa2 (t:=decide (((i:Nat):Int)<64)) kj (fun c12=>?_) (fun c12=>?_)
 ·skip
  have hlt47:i<64:=by have:=of_decide_eq_true c12; omega
  refine wp_skip <| hK11 _ _ <| wp_seq_k fun K13 hK13=>wp_block <| sgC fun K14 hK14=>sg 1 kj <| Qab (.int .u32 (wv (wget (w64 b) i))) 49 rfl kj (QaB 170 _ _ .i64 .u32 ((w64 b).map wv) i 64 119 (wv (wget (w64 b) i)) rfl kj kj kj kj kj hl64 (by omega) (QbZ _ _)) <| sg 2 kj <| sgN hK14 <| sgC fun K15 hK15=>?_
  refine sg 1 kj <| Qau (.int .u32 (wv (rr ((rnds KK (w64 b) s i).e) 6))) 82 #[.int .u32 (wv ((rnds KK (w64 b) s i).e)),.int .i64 (-6)] 51 rfl kj kj ((rotC ((rnds KK (w64 b) s i).e) 6 (-6) (by decide) (by decide) (by decide)) _) fun W8 e8=>sg 1 kj <| Qau (.int .u32 (wv (rr ((rnds KK (w64 b) s i).e) 11))) 82 #[.int .u32 (wv ((rnds KK (w64 b) s i).e)),.int .i64 (-11)] 53 rfl kj kj ((rotC ((rnds KK (w64 b) s i).e) 11 (-11) (by decide) (by decide) (by decide)) _) fun W9 e9=>?_
  have x9:=zbu (zbu xx1 e8) e9
  refine Qab (.int .u32 (wv (((rr ((rnds KK (w64 b) s i).e) 6))^^^((rr ((rnds KK (w64 b) s i).e) 11))))) 54 rfl kj (Qah kj (congrArg (zam .u32) (w_xor _ _))) <| sg 1 kj <| Qau (.int .u32 (wv (rr ((rnds KK (w64 b) s i).e) 25))) 82 #[.int .u32 (wv ((rnds KK (w64 b) s i).e)),.int .i64 (-25)] 56 rfl kj kj ((rotC ((rnds KK (w64 b) s i).e) 25 (-25) (by decide) (by decide) (by decide)) _) fun W10 e10=>?_
  have x10:=zbu x9 e10
  refine Qab (.int .u32 (wv (((((rr ((rnds KK (w64 b) s i).e) 6))^^^((rr ((rnds KK (w64 b) s i).e) 11))))^^^((rr ((rnds KK (w64 b) s i).e) 25))))) 57 rfl kj (Qah kj (congrArg (zam .u32) (w_xor _ _))) <| sg 1 kj <| sgN hK15 <| sgC fun K16 hK16=>sg 1 kj <| Qau (.int .u32 (wv (rr ((rnds KK (w64 b) s i).a) 2))) 82 #[.int .u32 (wv ((rnds KK (w64 b) s i).a)),.int .i64 (-2)] 59 rfl kj kj ((rotC ((rnds KK (w64 b) s i).a) 2 (-2) (by decide) (by decide) (by decide)) _) fun W11 e11=>sg 1 kj <| Qau (.int .u32 (wv (rr ((rnds KK (w64 b) s i).a) 13))) 82 #[.int .u32 (wv ((rnds KK (w64 b) s i).a)),.int .i64 (-13)] 61 rfl kj kj ((rotC ((rnds KK (w64 b) s i).a) 13 (-13) (by decide) (by decide) (by decide)) _) fun W12 e12=>Qab (.int .u32 (wv (((rr ((rnds KK (w64 b) s i).a) 2))^^^((rr ((rnds KK (w64 b) s i).a) 13))))) 62 rfl kj (Qah kj (congrArg (zam .u32) (w_xor _ _))) <| sg 1 kj ?_
  refine Qau (.int .u32 (wv (rr ((rnds KK (w64 b) s i).a) 22))) 82 #[.int .u32 (wv ((rnds KK (w64 b) s i).a)),.int .i64 (-22)] 64 rfl kj kj ((rotC ((rnds KK (w64 b) s i).a) 22 (-22) (by decide) (by decide) (by decide)) _) fun W13 e13=>Qab (.int .u32 (wv (((((rr ((rnds KK (w64 b) s i).a) 2))^^^((rr ((rnds KK (w64 b) s i).a) 13))))^^^((rr ((rnds KK (w64 b) s i).a) 22))))) 65 rfl kj (Qah kj (congrArg (zam .u32) (w_xor _ _))) <| sg 1 kj <| sgN hK16 <| sgC fun K17 hK17=>sg 2 kj <| Qab (.int .u32 (wv ((((rnds KK (w64 b) s i).h))+((((((rr ((rnds KK (w64 b) s i).e) 6))^^^((rr ((rnds KK (w64 b) s i).e) 11))))^^^((rr ((rnds KK (w64 b) s i).e) 25))))))) 68 rfl kj (Qah kj (congrArg (zam .u32) (QdG _ _))) <| sg 2 kj <| Qab (.int .u32 (wv ((((rnds KK (w64 b) s i).e))&&&(((rnds KK (w64 b) s i).f))))) 71 rfl kj (Qah kj (congrArg (zam .u32) (Qjo _ _))) <| sg 1 kj ?_
  refine Qab (.int .u32 (wv (~~~(((rnds KK (w64 b) s i).e))))) 73 rfl kj (Qah kj (congrArg (zam .u32) (Qou _))) <| sg 1 kj <| Qab (.int .u32 (wv (((~~~(((rnds KK (w64 b) s i).e))))&&&(((rnds KK (w64 b) s i).g))))) 75 rfl kj (Qah kj (congrArg (zam .u32) (Qjo _ _))) <| Qab (.int .u32 (wv ((((((rnds KK (w64 b) s i).e))&&&(((rnds KK (w64 b) s i).f))))^^^((((~~~(((rnds KK (w64 b) s i).e))))&&&(((rnds KK (w64 b) s i).g))))))) 76 rfl kj (Qah kj (congrArg (zam .u32) (w_xor _ _))) <| Qab (.int .u32 (wv ((((((rnds KK (w64 b) s i).h))+((((((rr ((rnds KK (w64 b) s i).e) 6))^^^((rr ((rnds KK (w64 b) s i).e) 11))))^^^((rr ((rnds KK (w64 b) s i).e) 25))))))+(((((((rnds KK (w64 b) s i).e))&&&(((rnds KK (w64 b) s i).f))))^^^((((~~~(((rnds KK (w64 b) s i).e))))&&&(((rnds KK (w64 b) s i).g))))))))) 77 rfl kj (Qah kj (congrArg (zam .u32) (QdG _ _))) <| sg 1 kj <| Qab (.pointer (some ⟨4,i,none⟩)) 79 rfl kj (QaC _ _ _ .i64 (i) _ 80 75 rfl kj kj kj kj (by omega)) ?_
  have r1_1:=(Qaa hc e1)
  have r1_3:=(rpn p3 r1_1 e2 l4)
  refine Qab (.int .u64 (nth (QaR) i)) 80 rfl kj (Qad 75 _ 4 i tc _ (.int .u64 (nth (QaR) i)) _ (Qaa (Qaa (Qaa (Qaa (Qaa (Qaa (Qaa (Qaa (rpn p5 r1_3 e4 l6) e6) e7) e8) e9) e10) e11) e12) e13) rfl kj (QaG _ _ _ (zal (by omega) (show QaR.length=80 from rfl).symm)) kj) <| Qab (.int .u64 (nth QaR i/4294967296)) 81 rfl kj (QaM .shr _ _ _ _ .u64 .u64 _ _ _ rfl kj kj (QbW _ _ _ _ _ _ (by decide) (Qn8 _))) <| Qab (.int .u32 (wv (wget KK i))) 82 rfl kj (Qah (u:=.int .u32 (zaH.wrap (nth QaR i/4294967296))) kj (congrArg (zam .u32) (Qoj i hlt47))) <| Qab (.int .u32 (wv ((((((((rnds KK (w64 b) s i).h))+((((((rr ((rnds KK (w64 b) s i).e) 6))^^^((rr ((rnds KK (w64 b) s i).e) 11))))^^^((rr ((rnds KK (w64 b) s i).e) 25))))))+(((((((rnds KK (w64 b) s i).e))&&&(((rnds KK (w64 b) s i).f))))^^^((((~~~(((rnds KK (w64 b) s i).e))))&&&(((rnds KK (w64 b) s i).g))))))))+((wget KK i))))) 83 rfl kj (Qah kj (congrArg (zam .u32) (QdG _ _))) <| sg 1 kj <| Qab (.int .u32 (wv ((((((((((rnds KK (w64 b) s i).h))+((((((rr ((rnds KK (w64 b) s i).e) 6))^^^((rr ((rnds KK (w64 b) s i).e) 11))))^^^((rr ((rnds KK (w64 b) s i).e) 25))))))+(((((((rnds KK (w64 b) s i).e))&&&(((rnds KK (w64 b) s i).f))))^^^((((~~~(((rnds KK (w64 b) s i).e))))&&&(((rnds KK (w64 b) s i).g))))))))+((wget KK i))))+((wget (w64 b) i))))) 85 rfl kj (Qah kj (congrArg (zam .u32) (QdG _ _))) <| sg 1 kj <| sgN hK17 <| sgC fun K18 hK18=>sg 3 kj ?_
  refine Qab (.int .u32 (wv ((((rnds KK (w64 b) s i).a))&&&(((rnds KK (w64 b) s i).b))))) 89 rfl kj (Qah kj (congrArg (zam .u32) (Qjo _ _))) <| sg 2 kj <| Qab (.int .u32 (wv ((((rnds KK (w64 b) s i).a))&&&(((rnds KK (w64 b) s i).c))))) 92 rfl kj (Qah kj (congrArg (zam .u32) (Qjo _ _))) <| Qab (.int .u32 (wv ((((((rnds KK (w64 b) s i).a))&&&(((rnds KK (w64 b) s i).b))))^^^(((((rnds KK (w64 b) s i).a))&&&(((rnds KK (w64 b) s i).c))))))) 93 rfl kj (Qah kj (congrArg (zam .u32) (w_xor _ _))) <| sg 2 kj <| Qab (.int .u32 (wv ((((rnds KK (w64 b) s i).b))&&&(((rnds KK (w64 b) s i).c))))) 96 rfl kj (Qah kj (congrArg (zam .u32) (Qjo _ _))) <| Qab (.int .u32 (wv ((((((((rnds KK (w64 b) s i).a))&&&(((rnds KK (w64 b) s i).b))))^^^(((((rnds KK (w64 b) s i).a))&&&(((rnds KK (w64 b) s i).c))))))^^^(((((rnds KK (w64 b) s i).b))&&&(((rnds KK (w64 b) s i).c))))))) 97 rfl kj (Qah kj (congrArg (zam .u32) (w_xor _ _))) <| Qab (.int .u32 (wv (((((((rr ((rnds KK (w64 b) s i).a) 2))^^^((rr ((rnds KK (w64 b) s i).a) 13))))^^^((rr ((rnds KK (w64 b) s i).a) 22))))+(((((((((rnds KK (w64 b) s i).a))&&&(((rnds KK (w64 b) s i).b))))^^^(((((rnds KK (w64 b) s i).a))&&&(((rnds KK (w64 b) s i).c))))))^^^(((((rnds KK (w64 b) s i).b))&&&(((rnds KK (w64 b) s i).c))))))))) 98 rfl kj (Qah kj (congrArg (zam .u32) (QdG _ _))) <| sg 1 kj <| sgN hK18 ?_
  refine Qae <| sg 5 kj <| Qab (.int .u32 (wv ((((rnds KK (w64 b) s i).d))+(((((((((((rnds KK (w64 b) s i).h))+((((((rr ((rnds KK (w64 b) s i).e) 6))^^^((rr ((rnds KK (w64 b) s i).e) 11))))^^^((rr ((rnds KK (w64 b) s i).e) 25))))))+(((((((rnds KK (w64 b) s i).e))&&&(((rnds KK (w64 b) s i).f))))^^^((((~~~(((rnds KK (w64 b) s i).e))))&&&(((rnds KK (w64 b) s i).g))))))))+((wget KK i))))+((wget (w64 b) i))))))) 104 rfl kj (Qah kj (congrArg (zam .u32) (QdG _ _))) <| sg 5 kj <| Qab (.int .u32 (wv ((((((((((((rnds KK (w64 b) s i).h))+((((((rr ((rnds KK (w64 b) s i).e) 6))^^^((rr ((rnds KK (w64 b) s i).e) 11))))^^^((rr ((rnds KK (w64 b) s i).e) 25))))))+(((((((rnds KK (w64 b) s i).e))&&&(((rnds KK (w64 b) s i).f))))^^^((((~~~(((rnds KK (w64 b) s i).e))))&&&(((rnds KK (w64 b) s i).g))))))))+((wget KK i))))+((wget (w64 b) i))))+((((((((rr ((rnds KK (w64 b) s i).a) 2))^^^((rr ((rnds KK (w64 b) s i).a) 13))))^^^((rr ((rnds KK (w64 b) s i).a) 22))))+(((((((((rnds KK (w64 b) s i).a))&&&(((rnds KK (w64 b) s i).b))))^^^(((((rnds KK (w64 b) s i).a))&&&(((rnds KK (w64 b) s i).c))))))^^^(((((rnds KK (w64 b) s i).b))&&&(((rnds KK (w64 b) s i).c))))))))))) 110 rfl kj (Qah kj (congrArg (zam .u32) (QdG _ _))) <| sg 8 kj <| Qal <| hK13 _ _ <| Qae <| Qab (.int .i64 ((i+1:Nat):Int)) 111 rfl kj (Qah (u:=.int .i64 (zaw.wrap (((i:Nat):Int)+1))) kj (congrArg (zam .i64) (i64n _ _ (by omega) (by omega)))) ?_
  refine sg 1 kj <| Qal ?_
  repeat (first | with_reducible refine goX1 ?_ | with_reducible refine goX2 ?_ | with_reducible refine goX3 ?_)
  exact Qa5 (i+1) ⟨kj,kj,kj,kj,kj,kj,kj,kj,kj,kj,kj,trivial⟩ ⟨(by omega),(zbp (zbp (zbp (zbp (zbp (zbp e7 e8) e9) e10) e11) e12) e13),(zbu (zbu (zbu x10 e11) e12) e13)⟩ (by omega)
 ·skip
  have heq47:i=64:=by have:=of_decide_eq_false c12; omega
  refine wp_exit <| hK8 _ _ <| sgB kj <| wp_block ?_
  obtain ⟨r,hr9⟩:∃ z,z=rnds KK (w64 b) s i:=⟨_,rfl⟩
  have rg_:V1.heap[g]? = some (.cells (cat [ints .u32 (s.l.map wv),ints .u8 (b),#[.int .i64 m]]) 167):=(Qaa (Qaa (rpn p5 r2_3 e4 l6) e6) e7)
  refine QaF (fun (s2:Nat)=>[(0,.pointer (some ⟨g,0,none⟩)),(120,.agg (ints .u32 ([wv (rnds KK (w64 b) s i).a,wv (rnds KK (w64 b) s i).b,wv (rnds KK (w64 b) s i).c,wv (rnds KK (w64 b) s i).d,wv (rnds KK (w64 b) s i).e,wv (rnds KK (w64 b) s i).f,wv (rnds KK (w64 b) s i).g,wv (rnds KK (w64 b) s i).h]))),(121,.int .i64 ((s2:Nat):Int))]) (fun (s2:Nat) W=>(s2≤8)∧(W.heap[g]? = some (.cells (cat [ints .u32 ((mixW s.l r.l s2).map wv),ints .u8 (b),#[.int .i64 m]]) 167))∧(Qaf [g] V1 W)∧(ExtB g w W)) (fun (s2:Nat)=>8-s2) 0 ⟨kj,kj,kj,trivial⟩ ⟨(zav _),rg_,(zb1 [g] V1),xx1⟩ fun s2 X2 V2 hI2=>?_
  obtain ⟨p,hs2⟩:∃ z,z=s2:=⟨_,rfl⟩
  subst hs2
  obtain ⟨hp,q2_2,kk2,xx2⟩:=hI2
  replace hp:p≤8:=hp
  replace q2_2:V2.heap[g]? = some (.cells (cat [ints .u32 ((mixW s.l r.l p).map wv),ints .u8 (b),#[.int .i64 m]]) 167):=q2_2
  replace kk2:Qaf [g] V1 V2:=kk2
  replace xx2:ExtB g w V2:=xx2
  have q8:=kk2
  refine sgB kj <| wp_seq_k fun K21 hK21=>Qa2 (t:=decide (((p:Nat):Int)<8)) kj (fun c22=>?_) (fun c22=>?_)
  ·skip
   have hlt122:p<8:=by have:=of_decide_eq_true c22; omega
   refine wp_skip <| hK21 _ _ <| wp_seq_k fun K23 hK23=>wp_block <| sgC fun K24 hK24=>sg 1 kj <| Qab (.int .u32 (wv (wget r.l p))) 124 rfl kj (QaB 165 _ _ .i64 .u32 ([wv (rnds KK (w64 b) s i).a,wv (rnds KK (w64 b) s i).b,wv (rnds KK (w64 b) s i).c,wv (rnds KK (w64 b) s i).d,wv (rnds KK (w64 b) s i).e,wv (rnds KK (w64 b) s i).f,wv (rnds KK (w64 b) s i).g,wv (rnds KK (w64 b) s i).h]) p 8 119 (wv (wget r.l p)) rfl kj kj kj kj kj rfl (by omega) (by rw [hr9]; exact QbZ (rnds KK (w64 b) s i).l p)) ?_
   refine sg 2 kj <| sgN hK24 <| QaL 11 [⟨none,[(0,none)]⟩,⟨none,[(18,none)]⟩,⟨none,[(125,some 0)]⟩,⟨none,[(127,some 2)]⟩,⟨none,[(128,some 3),(126,some 1)]⟩,⟨none,[(129,some 4)]⟩,⟨none,[(19,none)]⟩,⟨none,[(130,some 5),(131,some 6)]⟩,⟨none,[(125,some 0)]⟩,⟨none,[(133,some 8)]⟩,⟨none,[(134,some 9),(126,some 1)]⟩] kj kj fun F hF=>Qak (.pointer (some ⟨g,0,none⟩)) kj kj (fun _=>kj) <| Qak (.int .i64 ((p:Nat):Int)) kj kj (fun _=>kj) <| Qak (.pointer (some ⟨g,0,none⟩)) kj kj (fun _=>kj) <| Qak (.pointer (some ⟨g,0,none⟩)) kj kj (fun _=>kj) <| Qak (.pointer (some ⟨g,0+p*1,none⟩)) kj kj (fun W=>(Qce 165 _ _ .i64 p g 0 8 119 1 rfl kj kj kj kj (show p<8 by omega))) <| Qa7 (.int .u32 (wv (wget s.l p))) kj kj (fun W hR=>(Qad 119 _ g (0+p*1) 167 _ (.int .u32 (wv (wget s.l p))) _ (Qaa (Qaa q2_2 (Qaj _)) hR) rfl kj ((QdB [] [ints .u8 (b),#[.int .i64 m]] ((mixW s.l r.l p).map wv) 0 p (0+p*1) kj (by omega) (zal (show p<8 by omega) (QjS s r hp).symm)).trans (congrArg (fun z=>some (zam .u32 z)) (QmK s r hlt122))) kj)) <| Qak (.int .u32 (wv (wget r.l p))) kj kj (fun _=>kj) ?_
   refine Qak (.int .u32 (wv (((wget s.l p))+((wget r.l p))))) kj kj (fun W=>(Qah kj (congrArg (zam .u32) (QdG _ _)))) <| Qak (.pointer (some ⟨g,0,none⟩)) kj kj (fun _=>kj) <| Qak (.pointer (some ⟨g,0,none⟩)) kj kj (fun _=>kj) <| Qak (.pointer (some ⟨g,0+p*1,none⟩)) kj kj (fun W=>(Qce 165 _ _ .i64 p g 0 8 119 1 rfl kj kj kj kj (show p<8 by omega))) <| QaQ (hF _ kj fun W9 e9=>?_)
   simp only [ups,up,Kn.val,zap,zaq,zar,zas,zan,zao]
   clear hF
   have x9:=zbu xx2 e9
   have r2_9:=(Qaa q2_2 e9)
   refine Qan g _ (cat [ints .u32 (((mixW s.l r.l p).map wv).set p (wv (((wget s.l p))+((wget r.l p))))),ints .u8 (b),#[.int .i64 m]]) 167 r2_9 rfl kj (Qeh 119 _ _ g (0+p*1) 167 [] [ints .u8 (b),#[.int .i64 m]] ((mixW s.l r.l p).map wv) 0 p _ r2_9 rfl kj kj kj kj (by omega) (zal (show p<8 by omega) (QjS s r hp).symm)) fun W10 p10 r2_10=>?_
   have x10:=ExtB.puts x9 p10
   refine Qal <| hK23 _ _ <| Qae <| Qab (.int .i64 ((p+1:Nat):Int)) 136 rfl kj (Qah (u:=.int .i64 (zaw.wrap (((p:Nat):Int)+1))) kj (congrArg (zam .i64) (i64n _ _ (by omega) (by omega)))) <| sg 1 kj <| Qal ?_
   have rh_:W10.heap[g]? = some (.cells (cat [ints .u32 ((mixW s.l r.l (p+1)).map wv),ints .u8 (b),#[.int .i64 m]]) 167):=by have h9:=r2_10; rw [QmI s r hlt122] at h9; exact h9
   repeat (first | with_reducible refine goX1 ?_ | with_reducible refine goX2 ?_ | with_reducible refine goX3 ?_)
   exact Qa5 (p+1) ⟨kj,kj,kj,trivial⟩ ⟨(by omega),rh_,(zb4 (zb3 q8 e9) p10 (.inl (by simp))),x10⟩ (by show 8-(p+1)<8-p; omega)
  ·skip
   have heq122:p=8:=by have:=of_decide_eq_false c22; omega
   refine wp_exit ?_
   repeat (first | with_reducible refine goX1 ?_ | with_reducible refine goX2 ?_ | with_reducible refine goX3 ?_)
   exact (show bodyPost _ _ _ .normal _ _ from end0 rfl ⟨rfl,xx2,by have h9:=q2_2; rw [heq122,hr9,heq47] at h9; exact h9⟩)
end Sha
end
section
namespace Sha
open Go Go.RowKit
open Rely Auto Own
theorem QdS (s : S8) (t u:List Int):∀ n:Nat,64*n≤t.length→absorb s (t++u) n=absorb s t n
  | 0,_=>rfl
  | n+1,h=>by
    show blk (absorb s (t++u) n) _=blk (absorb s t n) _
    rw [QdS s t u n (by omega)]
    congr 1
    rw [zaJ (by omega),zaK (by rw [zac]; omega)]
def HasD (g : Nat) (t:List Int) (W:World):Prop:=∃ b:List Int,b.length=64∧Qai b∧b.take (t.length%64)=t.drop (64*(t.length/64))∧t.length≤1000000000 ∧
  W.heap[g]? = some (.cells (cat [ints .u32 ((absorb S0 t (t.length/64)).l.map wv),ints .u8 b,#[.int .i64 ((t.length:Nat):Int)]]) 167)
def into (b z:List Int) (q n:Nat):List Int:=b.take q++z.take n++b.drop (q+n)
theorem into_len {b z:List Int} {q n:Nat} (hb:b.length=64) (hz:n≤z.length) (hq:q+n≤64):(into b z q n).length=64:=by
  simp only [into,zaB,zah,zac]; omega
theorem Qeo {b z:List Int} {q n:Nat} (hb:Qai b) (hz:Qai z):Qai (into b z q n):=fun x hx=>by
  rcases zaL.1 hx with hx | hx
  · rcases zaL.1 hx with hx | hx
    · exact hb x (zaM hx)
    · exact hz x (zaM hx)
  · exact hb x (zaN hx)
theorem into_take {b z t:List Int} {n:Nat} (hb:b.length=64) (hz:n≤z.length) (hp:b.take (t.length%64)=t.drop (64*(t.length/64))):(into b z (t.length%64) n).take (t.length%64+n)=(t++z.take n).drop (64*(t.length/64)):=by
  have e1:(b.take (t.length%64)++z.take n).length=t.length%64+n:=by
    rw [zaB,zah,zah]; omega
  unfold into
  rw [←e1,List.take_left,hp,zaJ (by omega)]
theorem Qkh {b z t:List Int} {n:Nat} (hb:b.length=64) (hz:n≤z.length) (hp:b.take (t.length%64)=t.drop (64*(t.length/64))) (hn:t.length%64+n<64) :
    (into b z (t.length%64) n).take ((t++z.take n).length%64)=(t++z.take n).drop (64*((t++z.take n).length/64)):=by
  have hl:(t++z.take n).length=t.length+n:=by rw [zaB,zah]; omega
  rw [hl,show (t.length+n)%64=t.length%64+n by omega,show (t.length+n)/64=t.length/64 by omega]
  exact into_take hb hz hp
theorem Qkg {b z t:List Int} {n:Nat} (hb:b.length=64) (hz:n≤z.length) (hp:b.take (t.length%64)=t.drop (64*(t.length/64))) (hn:t.length%64+n=64) :
    blk (absorb S0 t (t.length/64)) (into b z (t.length%64) n)=absorb S0 (t++z.take n) ((t++z.take n).length/64):=by
  have hl:(t++z.take n).length=t.length+n:=by rw [zaB,zah]; omega
  rw [hl,show (t.length+n)/64=t.length/64+1 by omega]
  show _=blk (absorb S0 (t++z.take n) (t.length/64)) _
  rw [QdS S0 t _ _ (by omega)]
  have h1:=into_take hb hz hp
  rw [hn,zab (by rw [into_len hb hz (by omega)]; omega)] at h1
  rw [h1,zab (l:=(t++z.take n).drop (64*(t.length/64))) (by rw [zac,hl]; omega)]
theorem Qi7 {z t:List Int} {n:Nat} (hz:n≤z.length) (hn:t.length%64+n<64):absorb S0 (t++z.take n) ((t++z.take n).length/64)=absorb S0 t (t.length/64):=by
  have hl:(t++z.take n).length=t.length+n:=by rw [zaB,zah]; omega
  rw [hl,show (t.length+n)/64=t.length/64 by omega,QdS S0 t _ _ (by omega)]
section
variable {ds : List Deferred} {ops : Array Oper} {Q : Exit → Act → World → Prop} {rest : List Oper} {o : Oper} {N : Nat} {L : Env} {W : World}
theorem cat3 (a b c:Array Value):(cat [a,b,c]).toList=a.toList++(b.toList++c.toList):=by
  show (a++(b++c)).toList=_
  simp
theorem QlB {st b z:List Int} {u:Value} {q n:Nat} (hst:st.length=8) (hb:b.length=64) (hz:n≤z.length) (hq:q+n≤64) :
    ((cat [ints .u32 st,ints .u8 b,#[u]]).toList.take (8+q)++(z.take n).map (zam .u8)++(cat [ints .u32 st,ints .u8 b,#[u]]).toList.drop (8+q+n)).toArray=cat [ints .u32 st,ints .u8 (into b z q n),#[u]]:=by
  apply zaO
  rw [cat3,cat3]
  have e1:(ints .u32 st).toList=st.map (zam .u32):=rfl
  have e2:∀ b,(ints .u8 b).toList=b.map (zam .u8):=fun _=>rfl
  rw [e1,e2,e2]
  have l1:(st.map (zam .u32)).length=8:=by simpa using hst
  have l2:(b.map (zam .u8)).length=64:=by simpa using hb
  show (st.map (zam .u32)++(b.map (zam .u8)++[u])).take (8+q)++(z.take n).map (zam .u8)++(st.map (zam .u32)++(b.map (zam .u8)++[u])).drop (8+q+n)=_
  rw [show 8+q+n=8+(q+n) by omega]
  rw [←l1,List.take_length_add_append,List.drop_length_add_append,zaK (by omega)]
  rw [zaJ (by omega)]
  unfold into
  simp only [zaP,zaQ,zaR,zaS]
theorem Qjw (x y:Operand) (tx ty:TypeId) (d:Nat) (ho:o.op=.call { callee:=.builtin .copy,args:=#[x,y],argTypes:=#[tx,ty] }) (hu:Tryd.prog.underlying tx=some (.slice 5)) (hd:o.dst=some d) (hgd:Qbm ops o N L=some true)
    {g q n B:Nat} {st b z:List Int} {u v:Value} {T:TypeId} (hst:st.length=8) (hb:b.length=64) (hx:Rely.look (envN N L) x=.slice (some ⟨g,8+q,none⟩) (64-q) (64-q)) (hy:Rely.look (envN N L) y=v) (hr:RdK .u8 B z v W)
    (hg:W.heap[g]? = some (.cells (cat [ints .u32 st,ints .u8 b,#[u]]) T)) (hq:q<64) (hn:n=min z.length (64-q)) (h0:0<z.length)
    (k:∀ W':World,Puts W g W'→W'.heap[g]? = some (.cells (cat [ints .u32 st,ints .u8 (into b z q n),#[u]]) T)→WL Tryd.prog ops Q rest (Qaw ds N ((d,.int .i64 ((n:Nat):Int))::L)) W'):WL Tryd.prog ops Q (o::rest) (Qaw ds N L) W:=by
  obtain ⟨a,cap,rfl,y2,y3,y4,y5⟩:=hr
  obtain ⟨gz,oz,rfl,z2,z3,z4⟩:=y5.resolve_left (fun e=>by rw [e] at h0; simp at h0)
  have hlen:((z.take n).map (zam .u8)).length=n:=by simp; omega
  have hsz:(cat [ints .u32 st,ints .u8 b,#[u]]).size=73:=by
    rw [←Array.length_toList,cat3]; simp [ints]; omega
  have h:=run_copy_row (P:=Tryd.prog) W tx ty o.type 5 g (8+q) (64-q) (64-q) ⟨gz,oz,none⟩ z.length cap (cat [ints .u32 st,ints .u8 b,#[u]]) T ((z.take n).map (zam .u8)) hu kj hg (by rw [hlen]; exact hn)
    (QiR (k:=.u8) (ys:=z.take n) fun i hi=>by
      rw [zah] at hi
      rw [z4 i (by omega)]
      simp [nth,show i<n by omega]) (by rw [hlen,hsz]; omega) (QiN .u8 _)
  rw [hlen,QlB hst hb (by omega) (by omega)] at h
  refine Qbz (.int .i64 ((n:Nat):Int)) _ d hd hgd ?_ (k _ (QaV _ _ _) (setRow_heap _ _ _ _ _ _ hg))
  unfold execOp
  simp only [ho,resolve,invoke,builtin,za7,za9,za8,zaT,zaU,zaV,hx,hy,h,goInt]
theorem Qi9 {P : Program} {ρ:Operand→Value} {k:IntKind} {B:Nat} {ys:List Int} {v:Value} (t:TypeId) (x z:Operand) (l n:Nat) (e:TypeId) (ho:o.op=.slice t x (some z) none none) (hx:ρ x=v) (hv:RdK k B ys v W)
    (hu:P.underlying t=some (.slice e)) (hs:(P.info? e).map (·.size)=some 1) (kz:IntKind) (hz:ρ z=.int kz (l:Int)) (h1:l≤ys.length) (hn:ys.length-l=n) :
    ∃ a c,(execOp ρ o).run P W=.ok (.value (.slice a n c)) W∧RdK k B (ys.drop l) (.slice a n c) W∧(zaC a n c).ownBlock=v.ownBlock:=by
  obtain ⟨u,h2,h3,h5⟩:=QfL t x z l e ho hx hv hu hs kz hz h1
  obtain ⟨a,c,rfl,h4⟩:=id h3
  rw [zac,hn] at h2 h3 h5
  exact ⟨a,c,h2,h3,h5⟩
end
section
variable {ds : List Deferred} {ops : Array Oper} {Q : Exit → Act → World → Prop} {rest : List Oper} {o : Oper} {N : Nat} {L : Env} {W : World}
theorem QfK {P : Program} {k:IntKind} {B:Nat} {ys:List Int} {v:Value} (t:TypeId) (x z:Operand) (l n:Nat) (e:TypeId) (d:Nat) (ho:o.op=.slice t x (some z) none none) (hd:o.dst=some d) (hg:Qbm ops o N L=some true) (hx:Rely.look (envN N L) x=v) (hv:RdK k B ys v W)
    (hu:P.underlying t=some (.slice e)) (hs:(P.info? e).map (·.size)=some 1) (kz:IntKind) (hz:Rely.look (envN N L) z=.int kz (l:Int)) (h1:l≤ys.length) (hn:ys.length-l=n)
    (kk:∀ a c,RdK k B (ys.drop l) (.slice a n c) W→(zaC a n c).ownBlock=v.ownBlock→WL P ops Q rest (Qaw ds N ((d,.slice a n c)::L)) W):WL P ops Q (o::rest) (Qaw ds N L) W:=by
  obtain ⟨a,c,h2,h3,h4⟩:=Qi9 (ρ:=Rely.look (envN N L)) t x z l n e ho hx hv hu hs kz hz h1 hn
  exact Qbz _ _ d hd hg h2 (kk a c h3 h4)
end
theorem run_storeQ {P : Program} {ρ:Operand→Value} {o:Oper} {w:World} (ty:TypeId) (x y:Operand) (g off:Nat) (t:TypeId) (pre post:List (Array Value)) (u v:Value) (hg:w.heap[g]? = some (.cells (cat (pre++([#[u]]++post))) t))
    (ho:o.op=.store ty x y) (hx:ρ x=.pointer (some ⟨g,off,none⟩)) (hy:ρ y=v) (hi:(P.info? ty).map (·.size)=some 1) (hp:(cat pre).size=off) (h1:v.oneCell'=true) (hcs:v.cells=#[v]) :
    (execOp ρ o).run P w=.ok .skip (w.setRow g (cat (pre++([#[v]]++post)))):=by
  subst hp
  have hs:Nat.blt (cat pre).size (cat (pre++([#[u]]++post))).size=true:=by
    have:(cat pre).size<(cat (pre++([#[u]]++post))).size:=by
      rw [QaD,QaD,qS,qS]
      have e1:(cat [#[u]]).size=1:=rfl
      omega
    simpa using this
  have e:(cat (pre++([#[u]]++post))).setIfInBounds (cat pre).size v=cat (pre++([#[v]]++post)):=by
    rw [QaD,QaD,QaD,QaD]
    have e1:∀ z,cat [#[z]]=#[z]:=fun z=>rfl
    rw [e1,e1,Array.setIfInBounds_append_right (qR _),zaE,Array.setIfInBounds_append_left (by simp)]
    rfl
  rw [←e]
  exact Qbd ty x y g _ t _ v hg ho hx hy hi hs h1 hcs
end Sha
end
section
namespace Sha
open Go Go.RowKit
open Rely Auto Own
theorem addC (g B:Nat) (t ys:List Int) (v:Value) (tc:TypeId) (w:World) (hc:w.heap[4]? = some (.cells (ints .u64 QaR) tc)) (hcg:4≠g) (hB:ys=[]∨v.ownBlock≠some g) (hyb:Qai ys) (hlen:t.length+ys.length≤1000000000) (hd:HasD g t w) (hy:RdK .u8 B ys v w) :
  Calls Tryd.prog 91 #[.pointer (some ⟨g,0,none⟩),v] w (fun e W=>e=.returned (.tuple #[])∧ExtB g w W∧HasD g (t++ys) W):=by
 obtain ⟨a0,c0,rfl,-⟩:=id hy
 refine enter 40 [(0,.pointer (some ⟨g,0,none⟩)),(1,.slice a0 ys.length c0)] Tryd.func91 rfl rfl kj rfl <| wp_seq_k fun K3 hK3=>sgB kj <| cond_false kj <| wp_skip <| hK3 _ _ <| wp_block ?_
 have hyb2:∀ {k:Nat},Qai (ys.drop k):=fun x hx=>hyb x (zaN hx)
 refine QaF (fun (s1:Nat×Option Addr×Nat)=>[(0,.pointer (some ⟨g,0,none⟩)),(1,.slice s1.2.1 (ys.length-s1.1) s1.2.2)]) (fun (s1:Nat×Option Addr×Nat) W=>(s1.1≤ys.length)∧(RdK .u8 B (ys.drop s1.1) (.slice s1.2.1 (ys.length-s1.1) s1.2.2) W)∧(s1.1<ys.length→(zaC s1.2.1 (ys.length-s1.1) s1.2.2).ownBlock≠some g)∧(HasD g (t++ys.take s1.1) W)∧(ExtB g w W)) (fun (s1:Nat×Option Addr×Nat)=>ys.length-s1.1) (0,a0,c0) ⟨kj,kj,trivial⟩ ⟨(zav _),hy,(fun h=>hB.resolve_left (fun e=>by rw [e] at h; exact absurd h (Nat.lt_irrefl _))),(by simpa using hd),(zbt g w)⟩ fun s1 X1 V1 hI1=>?_
 obtain ⟨k,a,c⟩:=s1
 obtain ⟨hk,hr,hnb,hD,xx1⟩:=hI1
 replace hk:k≤ys.length:=hk
 replace hr:RdK .u8 B (ys.drop k) (.slice a (ys.length-k) c) V1:=hr
 replace hnb:k<ys.length→(zaC a (ys.length-k) c).ownBlock≠some g:=hnb
 replace hD:HasD g (t++ys.take k) V1:=hD
 replace xx1:ExtB g w V1:=xx1
 refine wp_seq_k fun K5 hK5=>sgB kj <| Qa2 (t:=decide (((ys.length-k:Nat):Int)>0)) kj (fun c7=>?_) (fun c7=>?_)
 ·skip
  have hk2:k<ys.length:=by have:=of_decide_eq_true c7; omega
  obtain ⟨b,hbl,hbb,hbp,hmany,hrow⟩:=hD
  obtain ⟨t1,ht1⟩:∃ z,z=t++ys.take k:=⟨_,rfl⟩
  rw [←ht1] at hbp hmany hrow
  have hlt1:t1.length=t.length+k:=by rw [ht1,zaB,zah]; omega
  obtain ⟨m,hm⟩:∃ z,z=t1.length:=⟨_,rfl⟩
  obtain ⟨s,hs⟩:∃ z,z=absorb S0 t1 (t1.length/64):=⟨_,rfl⟩
  obtain ⟨n,hn⟩:∃ z,z=min (ys.drop k).length (64-m%64):=⟨_,rfl⟩
  have hn0:0<n:=by rw [hn,zac]; omega
  have hn1:n≤ys.length-k:=by rw [hn,zac]; omega
  have hn2:n≤64-m%64:=by rw [hn]; omega
  rw [←hs,←hm] at hrow
  replace hrow:V1.heap[g]? = some (.cells (cat [ints .u32 ([wv s.a,wv s.b,wv s.c,wv s.d,wv s.e,wv s.f,wv s.g,wv s.h]),ints .u8 (b),#[.int .i64 ((m:Nat):Int)]]) 167):=hrow
  refine wp_skip <| hK5 _ _ <| wp_block <| wp_seq_k fun K8 hK8=>Qbg 10 [⟨none,[(0,none)]⟩,⟨none,[(10,some 0)]⟩,⟨none,[(11,some 1)]⟩,⟨none,[(0,none)]⟩,⟨none,[(13,some 3)]⟩,⟨none,[(14,some 4)]⟩,⟨none,[(15,some 5)]⟩,⟨none,[(16,some 6)]⟩,⟨none,[(12,some 2),(17,some 7)]⟩,⟨none,[(1,none)]⟩] kj kj fun F hF=>Qa8 (Qas _) (.pointer (some ⟨g,0,none⟩)) kj kj (fun _=>kj) <| Qa8 (Qas _) (.pointer (some ⟨g,0,none⟩)) kj kj (fun _=>kj) <| Qa8 (Qas _) (.pointer (some ⟨g,8,none⟩)) kj kj (fun _=>kj) <| Qa8 (Qas _) (.pointer (some ⟨g,0,none⟩)) kj kj (fun _=>kj) <| Qa8 (Qas _) (.pointer (some ⟨g,0,none⟩)) kj kj (fun _=>kj) ?_
  refine Qa8 (Qas _) (.pointer (some ⟨g,72,none⟩)) kj kj (fun _=>kj) <| Qbc (Qas _) (.int .i64 ((m:Nat):Int)) kj kj (fun W hR=>(Qad 3 _ g 72 167 _ (.int .i64 ((m:Nat):Int)) _ (Qaa (Qaa hrow (Qaj _)) hR) rfl kj (Qam [ints .u32 ([wv s.a,wv s.b,wv s.c,wv s.d,wv s.e,wv s.f,wv s.g,wv s.h]),ints .u8 (b)] [#[.int .i64 ((m:Nat):Int)]] [] 72 (by rw [Qac,Qac]; simp only [qS,cat,(izT hbl)]; rfl) 0 _ rfl) kj)) ?_
  refine Qa8 (Qas _) (.int .i64 ((m%64:Nat):Int)) kj kj (fun W=>(Qah (u:=.int .i64 (zay (((m:Nat):Int)) (64))) kj (congrArg (zam .i64) (Qc9 _ 64)))) <| Qa8 (Qas _) (.slice (some ⟨g,8+(m%64),none⟩) (64-(m%64)) (64-(m%64))) kj kj (fun W=>(Qb3 102 _ _ _ (m%64) 64 64 g 8 5 rfl kj kj kj ⟨.i64,by kernel_rfl⟩ rfl (by omega) (by omega) (by omega))) <| Qa8 (Qas _) (.slice a (ys.length-k) c) kj kj (fun _=>kj) <| QcO (hF _ fun W2 e2=>?_)
  simp only [zan,zao,zap,zaq,zar,zas,finE,up]
  clear hF
  have f9_2:=(hr.ext e2)
  have hbl2:(into b (ys.drop k) (m%64) n).length=64:=into_len hbl (by rw [zac]; omega) (by omega)
  refine Qjw (.tmp 18) (.tmp 19) 33 33 20 rfl kj rfl kj (q:=m%64) (n:=n) (b:=b) rfl hbl kj kj f9_2 (Qaa hrow e2) (by omega) hn (by rw [zac]; omega) fun W3 p3 r2_3=>?_
  refine sg 1 kj <| sgN hK8 <| sgC fun K10 hK10=>sg 2 kj <| QfK 33 (.tmp 21) (.tmp 22) n (ys.length-k-n) 5 23 rfl rfl kj kj (f9_2.putsN p3 (hnb hk2)) kj kj .i64 kj (by rw [zac]; omega) (by rw [zac]) fun a2 c2 hr2 hob=>?_
  have hnb2:(zaC a2 (ys.length-k-n) c2).ownBlock≠some g:=by rw [hob]; exact hnb hk2
  refine sg 1 kj <| sgN hK10 <| sgC fun K12 hK12=>sg 3 kj <| Qab (.int .i64 ((m:Nat):Int)) 27 rfl kj (Qad 3 _ g 72 167 _ (.int .i64 ((m:Nat):Int)) _ r2_3 rfl kj (Qam [ints .u32 ([wv s.a,wv s.b,wv s.c,wv s.d,wv s.e,wv s.f,wv s.g,wv s.h]),ints .u8 (into b (ys.drop k) (m%64) n)] [#[.int .i64 ((m:Nat):Int)]] [] 72 (by rw [Qac,Qac]; simp only [qS,cat,(izT hbl2)]; rfl) 0 _ rfl) kj) ?_
  refine sg 1 kj <| Qab (.int .i64 ((m+n:Nat):Int)) 29 rfl kj (Qah (u:=.int .i64 (zaw.wrap (((m:Nat):Int)+((n:Nat):Int)))) kj (congrArg (zam .i64) (i64n _ _ (by omega) (by omega)))) <| sg 2 kj <| Qan g _ (cat [ints .u32 ([wv s.a,wv s.b,wv s.c,wv s.d,wv s.e,wv s.f,wv s.g,wv s.h]),ints .u8 (into b (ys.drop k) (m%64) n),#[.int .i64 ((m+n:Nat):Int)]]) 167 r2_3 rfl kj (run_storeQ 3 _ _ g 72 167 [ints .u32 ([wv s.a,wv s.b,wv s.c,wv s.d,wv s.e,wv s.f,wv s.g,wv s.h]),ints .u8 (into b (ys.drop k) (m%64) n)] [] _ (.int .i64 ((m+n:Nat):Int)) r2_3 rfl kj kj kj (by rw [Qac,Qac]; simp only [qS,cat,(izT hbl2)]; rfl) rfl rfl) fun W4 p4 r2_4=>?_
  have x4:=ExtB.puts (ExtB.puts (zbu xx1 e2) p3) p4
  refine sgN hK12 <| sgC fun K13 hK13=>sg 3 kj <| Qab (.int .i64 ((m+n:Nat):Int)) 35 rfl kj (Qad 3 _ g 72 167 _ (.int .i64 ((m+n:Nat):Int)) _ r2_4 rfl kj (Qam [ints .u32 ([wv s.a,wv s.b,wv s.c,wv s.d,wv s.e,wv s.f,wv s.g,wv s.h]),ints .u8 (into b (ys.drop k) (m%64) n)] [#[.int .i64 ((m+n:Nat):Int)]] [] 72 (by rw [Qac,Qac]; simp only [qS,cat,(izT hbl2)]; rfl) 0 _ rfl) kj) ?_
  refine Qab (.int .i64 (((m+n)%64:Nat):Int)) 36 rfl kj (Qah (u:=.int .i64 (zay (((m+n:Nat):Int)) (64))) kj (congrArg (zam .i64) (Qc9 _ 64))) <| sg 1 kj <| sgN hK13 <| Qa2 (t:=((((m+n)%64:Nat):Int)==0)) kj (fun c14=>?_) (fun c14=>?_)
  ·skip
   have hmod:(m+n)%64=0:=by have:=c14; have h2:=eq_of_beq this; omega
   refine Qae <| sg 1 kj <| Qav (fun v W'=>v=.tuple #[]∧ExtB g W4 W'∧W'.heap[g]? = some (.cells (cat [ints .u32 ((blk s (into b (ys.drop k) (m%64) n)).l.map wv),ints .u8 (into b (ys.drop k) (m%64) n),#[.int .i64 ((m+n:Nat):Int)]]) 167)) 94 #[.pointer (some ⟨g,0,none⟩)] 39 rfl kj kj ((Qow g s _ hbl2 (Qeo hbb hyb2) _ tc _ (zbq p4 (zbq p3 (Qaa (zbv xx1 hc hcg) e2) hcg) hcg) r2_4).mono fun e w' h=>⟨_,h.1,rfl,h.2⟩) fun v W5 h=>?_
   obtain ⟨rfl,q5,r2_5⟩:=h
   refine Qal ?_
   have hr3:RdK .u8 B (ys.drop (k+n)) (.slice a2 (ys.length-(k+n)) c2) W5:=by
    have h:=((hr2.putsN p4 hnb2).extN q5 hnb2)
    rw [zaW,show ys.length-k-n=ys.length-(k+n) by omega] at h
    exact h
   have hlen3:(t1++(ys.drop k).take n).length=m+n:=by rw [zaB,zah,zac]; omega
   have hnb3:(zaC a2 (ys.length-(k+n)) c2).ownBlock≠some g:=by rw [show ys.length-(k+n)=ys.length-k-n by omega]; exact hnb2
   have hT:t++ys.take (k+n)=t1++(ys.drop k).take n:=by rw [ht1,zaS,List.take_add]
   have hzn:n≤(ys.drop k).length:=by rw [zac]; omega
   have hb0:(into b (ys.drop k) (m%64) n).take ((t++ys.take (k+n)).length%64)=(t++ys.take (k+n)).drop (64*((t++ys.take (k+n)).length/64)):=by
    rw [hT,hlen3,hmod,zaq,zaX (by omega)]
   have hst:blk s (into b (ys.drop k) (m%64) n)=absorb S0 (t++ys.take (k+n)) ((t++ys.take (k+n)).length/64):=by rw [hT,hs,hm]; exact Qkg hbl hzn hbp (by omega)
   have hD2:HasD g (t++ys.take (k+n)) W5:=⟨_,hbl2,Qeo hbb hyb2,hb0,by rw [hT,hlen3]; omega,by rw [←hst,hT,hlen3]; exact r2_5⟩
   repeat (first | with_reducible refine goX1 ?_ | with_reducible refine goX2 ?_ | with_reducible refine goX3 ?_)
   exact Qa5 (k+n,a2,c2) ⟨kj,(congrArg (fun z=>zaC a2 z c2) (by omega)),trivial⟩ ⟨(by omega),hr3,(fun _=>hnb3),hD2,(ExtB.trans x4 q5)⟩ (by show ys.length-(k+n)<ys.length-k; omega)
  ·skip
   have hmod:¬ (m+n)%64=0:=by have:=c14; intro h0; rw [h0] at this; exact absurd this (by decide)
   refine wp_skip ?_
   have hr3:RdK .u8 B (ys.drop (k+n)) (.slice a2 (ys.length-(k+n)) c2) W4:=by
    have h:=(hr2.putsN p4 hnb2)
    rw [zaW,show ys.length-k-n=ys.length-(k+n) by omega] at h
    exact h
   have hlen3:(t1++(ys.drop k).take n).length=m+n:=by rw [zaB,zah,zac]; omega
   have hnb3:(zaC a2 (ys.length-(k+n)) c2).ownBlock≠some g:=by rw [show ys.length-(k+n)=ys.length-k-n by omega]; exact hnb2
   have hT:t++ys.take (k+n)=t1++(ys.drop k).take n:=by rw [ht1,zaS,List.take_add]
   have hzn:n≤(ys.drop k).length:=by rw [zac]; omega
   have hb0:(into b (ys.drop k) (m%64) n).take ((t++ys.take (k+n)).length%64)=(t++ys.take (k+n)).drop (64*((t++ys.take (k+n)).length/64)):=by
    rw [hT,hm]; exact Qkh hbl hzn hbp (by omega)
   have hst:s=absorb S0 (t++ys.take (k+n)) ((t++ys.take (k+n)).length/64):=by rw [hT,hs]; exact (Qi7 hzn (by omega)).symm
   have hD2:HasD g (t++ys.take (k+n)) W4:=⟨_,hbl2,Qeo hbb hyb2,hb0,by rw [hT,hlen3]; omega,by rw [←hst,hT,hlen3]; exact r2_4⟩
   repeat (first | with_reducible refine goX1 ?_ | with_reducible refine goX2 ?_ | with_reducible refine goX3 ?_)
   exact Qa5 (k+n,a2,c2) ⟨kj,(congrArg (fun z=>zaC a2 z c2) (by omega)),trivial⟩ ⟨(by omega),hr3,(fun _=>hnb3),hD2,x4⟩ (by show ys.length-(k+n)<ys.length-k; omega)
 ·skip
  have hk2:k=ys.length:=by have:=of_decide_eq_false c7; omega
  refine wp_exit ?_
  repeat (first | with_reducible refine goX1 ?_ | with_reducible refine goX2 ?_ | with_reducible refine goX3 ?_)
  exact (show bodyPost _ _ _ .normal _ _ from end0 rfl ⟨rfl,xx1,by rw [hk2,za6] at hD; exact hD⟩)
end Sha
end
section
namespace Sha
open Go Go.RowKit
open Rely Auto Own
theorem bytes_zeros (n : Nat):Qai (zat n 0):=fun x hx=>by
  have:=zaA hx
  subst this; decide
theorem QmV (n : Nat):(64-(n+1+8)%64)%64=Qb1 n:=by unfold Qb1; omega
theorem u64_n (n : Nat) (h:n≤1000000000):zaf.wrap ((n:Nat):Int)=((n:Nat):Int):=by
  have:∀ z:Int,zaf.wrap z=z%2^64:=fun _=>rfl
  rw [this]; omega
theorem Qov (n : Nat) (h:n≤1000000000):zaf.wrap (((n:Nat):Int)*2^min (3:Int).toNat zaf.bits)=((8*n:Nat):Int):=by
  have:∀ z:Int,zaf.wrap z=z%2^64:=fun _=>rfl
  rw [this,show ((2:Int)^min (3:Int).toNat zaf.bits)=8 from rfl]; omega
theorem Qn1 (n : Nat) (h:n≤1000000000):((n:Nat):Int).fdiv (2^min (61:Int).toNat zaf.bits)=0:=by
  rw [zag _ (by decide),show ((2:Int)^min (61:Int).toNat zaf.bits)=2305843009213693952 from rfl]; omega
theorem Qnj (m : Nat):zae.wrap ((m:Nat):Int)=((m%256:Nat):Int):=by
  have:∀ z:Int,zae.wrap z=z%2^8:=fun _=>rfl
  rw [this]; omega
theorem Qo4 (n i:Nat):((8*n/256^i:Nat):Int).fdiv (2^min (8:Int).toNat zaf.bits)=((8*n/256^(i+1):Nat):Int):=by
  rw [zag _ (by decide),show ((2:Int)^min (8:Int).toNat zaf.bits)=256 from rfl,Nat.pow_succ,←Nat.div_div_eq_div_mul]; omega
theorem lowlt (n i:Nat) (h:n≤1000000000):8*n/256^(i+1)<18446744073709551616:=Nat.lt_of_le_of_lt (Nat.div_le_self _ _) (by omega)
theorem or0 (m : Nat) (h:m<18446744073709551616):bits .or .u64 ((m:Nat):Int) 0=((m:Nat):Int):=by
  have:=bits_or_u64_nat m 0 h (by decide)
  rw [Nat.or_zero] at this
  exact this
def padL (n i:Nat):List Int:=128::(zat (Qb1 n) 0++(zat (8-i) 0++(be8 (8*n)).drop (8-i)))
theorem Qlj (n : Nat) {i:Nat} (h:i≤8):(padL n i).length=1+Qb1 n+8:=by
  have:(be8 (8*n)).length=8:=rfl
  simp [padL,this]; omega
theorem Qgm (n : Nat):(QeA n).length=1+Qb1 n+8:=by
  have:(be8 (8*n)).length=8:=rfl
  simp [QeA,this]; omega
theorem QnI (n : Nat):(zat (1+Qb1 n+8) (0:Int)).set 0 128=padL n 0:=by
  rw [show 1+Qb1 n+8=(Qb1 n+8)+1 by omega,List.replicate_succ,zaY,←List.replicate_append_replicate]
  rfl
theorem Qli (n i:Nat) (h:i<8):(padL n i).set (1+Qb1 n+8-1-i) ((8*n/256^i%256:Nat):Int)=padL n (i+1):=by
  unfold padL
  rw [show 1+Qb1 n+8-1-i=(Qb1 n+(7-i))+1 by omega,List.set_cons_succ,zaZ _ _ (by simp),qZ,Nat.add_sub_cancel_left]
  congr 2
  match i,h with
  | 0,_=>rfl
  | 1,_=>rfl
  | 2,_=>rfl
  | 3,_=>rfl
  | 4,_=>rfl
  | 5,_=>rfl
  | 6,_=>rfl
  | 7,_=>rfl
theorem Qlh (n : Nat) (hn:n≤1000000000) (w:World):Calls Tryd.prog 95 #[.int .i64 ((n:Nat):Int),.int .i64 64,.int .i64 8] w (QbF w (OwnN .u8 5 w.heap.size (QeA n))):=by
 have hF:Qb1 n<64:=by unfold Qb1; omega
 refine enter 59 [(0,.int .i64 ((n:Nat):Int)),(1,.int .i64 64),(2,.int .i64 8)] Tryd.func95 rfl rfl kj rfl <| sgB kj <| sgC fun K2 hK2=>sg 2 kj <| Qab (.int .i64 ((n+1:Nat):Int)) 15 rfl kj (Qah (u:=.int .i64 (zaw.wrap (((n:Nat):Int)+1))) kj (congrArg (zam .i64) (i64n _ _ (by omega) (by omega)))) <| sg 1 kj <| Qab (.int .i64 (((n+1)+8:Nat):Int)) 17 rfl kj (Qah (u:=.int .i64 (zaw.wrap (((n+1:Nat):Int)+8))) kj (congrArg (zam .i64) (i64n _ _ (by omega) (by omega)))) <| sg 1 kj <| Qab (.int .i64 ((((n+1)+8)%64:Nat):Int)) 19 rfl kj (Qah (u:=.int .i64 (zay ((((n+1)+8:Nat):Int)) (64))) kj (congrArg (zam .i64) (Qc9 _ 64))) <| Qab (.int .i64 ((64-(((n+1)+8)%64):Nat):Int)) 20 rfl kj (Qah (u:=.int .i64 (zaw.wrap (64-((((n+1)+8)%64:Nat):Int)))) kj (congrArg (zam .i64) (i64n _ _ (by omega) (by omega)))) ?_
 refine sg 1 kj <| Qab (.int .i64 (((Qb1 n:Nat):Int))) 22 rfl kj (Qah (u:=.int .i64 (zay (((64-(((n+1)+8)%64):Nat):Int)) (64))) kj (congrArg (zam .i64) ((Qc9 _ 64).trans (congrArg (fun z:Nat=>(z:Int)) (QmV n))))) <| sg 1 kj <| sgN hK2 <| sgC fun K3 hK3=>sg 1 kj <| Qab (.int .i64 ((1+(Qb1 n):Nat):Int)) 24 rfl kj (Qah (u:=.int .i64 (zaw.wrap (1+(((Qb1 n:Nat):Int))))) kj (congrArg (zam .i64) (i64n _ _ (by omega) (by omega)))) <| sg 1 kj <| Qab (.int .i64 (((1+(Qb1 n))+8:Nat):Int)) 26 rfl kj (Qah (u:=.int .i64 (zaw.wrap (((1+(Qb1 n):Nat):Int)+8))) kj (congrArg (zam .i64) (i64n _ _ (by omega) (by omega)))) <| QaU (ints .u8 (zat ((1+(Qb1 n))+8) 0)) 5 ((1+(Qb1 n))+8) 27 rfl kj (Qds 33 _ _ .i64 .i64 ((1+(Qb1 n))+8) 5 rfl kj kj kj (.inr kj) (by omega)) fun g4 W1 l4 e1 r4_1=>?_
 have b4:=qT (zbo w).size l4
 refine sg 1 kj <| sgN hK3 <| sgC fun K5 hK5=>sg 1 kj <| Qab (.pointer (some ⟨g4,0,none⟩)) 29 rfl kj (Qbf 33 _ _ .i64 (0) g4 ((1+(Qb1 n))+8) ((1+(Qb1 n))+8) 5 rfl kj kj kj kj (by omega)) <| Qan g4 _ (ints .u8 ((zat ((1+(Qb1 n))+8) 0).set 0 128)) 5 r4_1 rfl kj (Qa1 5 _ _ g4 0 5 _ _ r4_1 rfl kj kj kj (zal (by omega) (qZ (n:=((1+(Qb1 n))+8))).symm)) fun W2 p2 r4_2=>sgN hK5 <| sgC fun K6 hK6=>sg 1 kj <| Qab (.int .u64 (((n:Nat):Int))) 31 rfl kj (Qah (u:=.int .u64 (zaf.wrap ((n:Nat):Int))) kj (congrArg (zam .u64) (u64_n n (by omega)))) ?_
 refine Qab (.int .u64 (((8*n:Nat):Int))) 32 rfl kj (QaM .shl _ _ _ _ .u64 .u64 _ _ _ rfl kj kj (Qev _ _ _ _ _ _ (by decide) (Qov n (by omega)))) <| sg 1 kj <| Qab (.int .u64 (((n:Nat):Int))) 34 rfl kj (Qah (u:=.int .u64 (zaf.wrap ((n:Nat):Int))) kj (congrArg (zam .u64) (u64_n n (by omega)))) <| Qab (.int .u64 (0)) 35 rfl kj (QaM .shr _ _ _ _ .u64 .u64 _ _ _ rfl kj kj (QbW _ _ _ _ _ _ (by decide) (Qn1 n (by omega)))) <| sg 2 kj <| sgN hK6 <| wp_seq_k fun K7 hK7=>sgB kj <| wp_block <| QaF (fun (s1:Nat)=>[(8,.slice (some ⟨g4,0,none⟩) ((1+(Qb1 n))+8) ((1+(Qb1 n))+8)),(9,.int .u64 ((8*n/256^s1:Nat):Int)),(10,.int .u64 0),(36,.int .i64 8),(37,.int .i64 ((s1:Nat):Int))]) (fun (s1:Nat) W=>(s1≤8)∧(W.heap[g4]? = some (.cells (ints .u8 (padL n s1)) 5))∧(Qaf [g4] W2 W)∧(Ext w W)) (fun (s1:Nat)=>8-s1) 0 ⟨kj,(congrArg (fun z:Nat=>zam .u64 (z:Int)) (Nat.div_one _).symm),kj,kj,kj,trivial⟩ ⟨(zav _),(QaH r4_2 (QnI n)),(zb1 [g4] W2),(zbr p2 (zbs (zbo w) e1) b4)⟩ fun s1 X1 V1 hI1=>?_
 obtain ⟨i,hs1⟩:∃ z,z=s1:=⟨_,rfl⟩
 subst hs1
 obtain ⟨hi,q4_1,kk1,xx1⟩:=hI1
 replace hi:i≤8:=hi
 replace q4_1:V1.heap[g4]? = some (.cells (ints .u8 (padL n i)) 5):=q4_1
 replace kk1:Qaf [g4] W2 V1:=kk1
 replace xx1:Ext w V1:=xx1
 have q3:=kk1
 refine sgB kj <| wp_seq_k fun K10 hK10=>Qa2 (t:=decide (((i:Nat):Int)<8)) kj (fun c11=>?_) (fun c11=>?_)
 ·skip
  have hlt38:i<8:=by have:=of_decide_eq_true c11; omega
  refine wp_skip <| hK10 _ _ <| wp_seq_k fun K12 hK12=>wp_block <| sgB kj <| sgC fun K14 hK14=>sg 1 kj <| Qab (.int .u8 (((8*n/256^i%256:Nat):Int))) 41 rfl kj (Qah (u:=.int .u8 (zae.wrap ((8*n/256^i:Nat):Int))) kj (congrArg (zam .u8) (Qnj _))) <| sg 1 kj <| sgN hK14 ?_
  refine sgC fun K15 hK15=>sg 3 kj <| Qab (.int .i64 ((((1+(Qb1 n))+8)-1:Nat):Int)) 45 rfl kj (Qah (u:=.int .i64 (zaw.wrap ((((1+(Qb1 n))+8:Nat):Int)-1))) kj (congrArg (zam .i64) (i64n _ _ (by omega) (by omega)))) <| sg 1 kj <| Qab (.int .i64 (((((1+(Qb1 n))+8)-1)-i:Nat):Int)) 47 rfl kj (Qah (u:=.int .i64 (zaw.wrap (((((1+(Qb1 n))+8)-1:Nat):Int)-((i:Nat):Int)))) kj (congrArg (zam .i64) (i64n _ _ (by omega) (by omega)))) <| sg 1 kj <| Qab (.pointer (some ⟨g4,((((1+(Qb1 n))+8)-1)-i),none⟩)) 49 rfl kj (Qbf 33 _ _ .i64 ((((1+(Qb1 n))+8)-1)-i) g4 ((1+(Qb1 n))+8) ((1+(Qb1 n))+8) 5 rfl kj kj kj kj (by omega)) <| Qan g4 _ (ints .u8 ((padL n i).set ((((1+(Qb1 n))+8)-1)-i) (((8*n/256^i%256:Nat):Int)))) 5 q4_1 rfl kj (Qa1 5 _ _ g4 ((((1+(Qb1 n))+8)-1)-i) 5 _ _ q4_1 rfl kj kj kj (zal (by omega) (Qlj n (by omega)).symm)) fun W4 p4 r4_4=>sgN hK15 <| sgC fun K16 hK16=>?_
  refine sg 1 kj <| Qab (.int .u64 (((8*n/256^(i+1):Nat):Int))) 51 rfl kj (QaM .shr _ _ _ _ .u64 .u64 _ _ _ rfl kj kj (QbW _ _ _ _ _ _ (by decide) (Qo4 n i))) <| sg 1 kj <| Qab (.int .u64 (0)) 53 rfl kj (QaM .shl _ _ _ _ .u64 .u64 _ _ _ rfl kj kj (Qev _ _ _ _ _ _ (by decide) (show zaf.wrap (0*2^min (56:Int).toNat zaf.bits)=0 from rfl))) <| Qab (.int .u64 (((8*n/256^(i+1):Nat):Int))) 54 rfl kj (Qah (u:=.int .u64 (bits .or .u64 (((8*n/256^(i+1):Nat):Int)) (0))) kj (congrArg (zam .u64) (or0 _ (lowlt n i (by omega))))) <| sg 1 kj <| sgN hK16 <| Qae <| sg 1 kj <| Qab (.int .u64 (0)) 56 rfl kj (QaM .shr _ _ _ _ .u64 .u64 _ _ _ rfl kj kj (QbW _ _ _ _ _ _ (by decide) (show Int.fdiv 0 (2^min (8:Int).toNat zaf.bits)=0 from rfl))) ?_
  refine sg 1 kj <| Qal <| hK12 _ _ <| Qae <| Qab (.int .i64 ((i+1:Nat):Int)) 57 rfl kj (Qah (u:=.int .i64 (zaw.wrap (((i:Nat):Int)+1))) kj (congrArg (zam .i64) (i64n _ _ (by omega) (by omega)))) <| sg 1 kj <| Qal ?_
  repeat (first | with_reducible refine goX1 ?_ | with_reducible refine goX2 ?_ | with_reducible refine goX3 ?_)
  exact Qa5 (i+1) ⟨kj,kj,kj,kj,kj,trivial⟩ ⟨(by omega),(QaH r4_4 (Qli n i hlt38)),(zb4 q3 p4 (.inl (by simp))),(zbr p4 xx1 b4)⟩ (by omega)
 ·skip
  have heq38:i=8:=by have:=of_decide_eq_false c11; omega
  have r4_3_17:V1.heap[g4]? = some (.cells (ints .u8 (QeA n)) 5):=QaH q4_1 (by rw [heq38]; rfl)
  refine wp_exit <| hK7 _ _ <| sgB kj <| wp_ret ?_
  repeat (first | with_reducible refine goR1 ?_ | with_reducible refine goR2 ?_)
  exact (show bodyPost _ _ _ .ret _ _ from ret1 (.slice (some ⟨g4,0,none⟩) ((1+(Qb1 n))+8) ((1+(Qb1 n))+8)) rfl (Qaz kj) ⟨_,rfl,xx1,Qcu (Qgm n) b4 r4_3_17 (by simp only [maxLen]; omega)⟩)
theorem newC (tq : TypeId) (w:World) (hq:w.heap[3]? = some (.cells (ints .u64 Qa9) tq)):Calls Tryd.prog 90 #[] w (QbF w (fun v W=>∃ g,v=.pointer (some ⟨g,0,none⟩)∧w.heap.size≤g∧HasD g [] W)):=by
 refine enter 21 [] Tryd.func90 rfl rfl kj rfl <| sgB kj <| sgC fun K3 hK3=>sg 1 kj <| Qar (cat [ints .u32 ([0,0,0,0,0,0,0,0]),ints .u8 (zat 64 0),#[.int .i64 0]]) 167 5 rfl kj kj fun g4 W1 l4 e1 r4_1=>?_
 have b4:=qT (zbo w).size l4
 refine sg 1 kj <| sgN hK3 <| wp_seq_k fun K5 hK5=>sgC fun K6 hK6=>Qab (.agg (ints .u64 (Qa9))) 6 rfl kj (Qap 168 _ 3 tq _ _ (Qaa hq e1) rfl kj kj (isz (n:=8) kj (izT (show Qa9.length=8 from rfl)))) <| sg 1 kj <| sgN hK6 <| wp_block ?_
 have rz_:W1.heap[g4]? = some (.cells (cat [ints .u32 (fill (S0.l.map wv) 8 0),ints .u8 (zat 64 0),#[.int .i64 0]]) 167):=r4_1
 refine QaF (fun (s1:Nat)=>[(1,.pointer (some ⟨g4,0,none⟩)),(4,.agg (cat [ints .u32 ([0,0,0,0,0,0,0,0]),ints .u8 (zat 64 0),#[.int .i64 0]])),(5,.pointer (some ⟨g4,0,none⟩)),(6,.agg (ints .u64 (Qa9))),(7,.int .i64 ((s1:Nat):Int))]) (fun (s1:Nat) W=>(s1≤8)∧(W.heap[g4]? = some (.cells (cat [ints .u32 (fill (S0.l.map wv) 8 s1),ints .u8 (zat 64 0),#[.int .i64 0]]) 167))∧(Qaf [g4] W1 W)∧(Ext w W)) (fun (s1:Nat)=>8-s1) 0 ⟨kj,kj,kj,kj,kj,trivial⟩ ⟨(zav _),rz_,(zb1 [g4] W1),(zbs (zbo w) e1)⟩ fun s1 X1 V1 hI1=>?_
 obtain ⟨p,hs1⟩:∃ z,z=s1:=⟨_,rfl⟩
 subst hs1
 obtain ⟨hp,q4_1,kk1,xx1⟩:=hI1
 replace hp:p≤8:=hp
 replace q4_1:V1.heap[g4]? = some (.cells (cat [ints .u32 (fill (S0.l.map wv) 8 p),ints .u8 (zat 64 0),#[.int .i64 0]]) 167):=q4_1
 replace kk1:Qaf [g4] W1 V1:=kk1
 replace xx1:Ext w V1:=xx1
 have q2:=kk1
 refine sgB kj <| wp_seq_k fun K8 hK8=>Qa2 (t:=decide (((p:Nat):Int)<8)) kj (fun c9=>?_) (fun c9=>?_)
 ·skip
  have hlt8:p<8:=by have:=of_decide_eq_true c9; omega
  refine wp_skip <| hK8 _ _ <| wp_seq_k fun K10 hK10=>wp_block <| sgC fun K11 hK11=>sg 1 kj <| Qab (.int .u64 (nth Qa9 p)) 10 rfl kj (QaB 168 _ _ .i64 .u64 (Qa9) p 8 75 (nth Qa9 p) rfl kj kj kj kj kj (show Qa9.length=8 from rfl) (by omega) rfl) <| sg 2 kj <| sgN hK11 <| Qae ?_
  refine sg 3 kj <| Qab (.int .u64 (nth Qa9 p/4294967296)) 14 rfl kj (QaM .shr _ _ _ _ .u64 .u64 _ _ _ rfl kj kj (QbW _ _ _ _ _ _ (by decide) (Qn8 _))) <| Qab (.int .u32 (nth (S0.l.map wv) p)) 15 rfl kj (Qah (u:=.int .u32 (zaH.wrap (nth Qa9 p/4294967296))) kj (congrArg (zam .u32) ((by decide +kernel:∀ i:Fin 8,zaH.wrap (nth Qa9 i.val/4294967296)=nth (S0.l.map wv) i.val) ⟨p,hlt8⟩))) <| sg 2 kj <| Qab (.pointer (some ⟨g4,0+p*1,none⟩)) 18 rfl kj (Qce 165 _ _ .i64 p g4 0 8 119 1 rfl kj kj kj kj (show p<8 by omega)) <| Qan g4 _ (cat [ints .u32 ((fill (S0.l.map wv) 8 p).set p (nth (S0.l.map wv) p)),ints .u8 (zat 64 0),#[.int .i64 0]]) 167 q4_1 rfl kj (Qeh 119 _ _ g4 (0+p*1) 167 [] [ints .u8 (zat 64 0),#[.int .i64 0]] (fill (S0.l.map wv) 8 p) 0 p _ q4_1 rfl kj kj kj kj (by omega) (zal (show p<8 by omega) (Qb2 (n:=8) rfl hp).symm)) fun W3 p3 r4_3=>Qal <| hK10 _ _ <| Qae <| Qab (.int .i64 ((p+1:Nat):Int)) 19 rfl kj (Qah (u:=.int .i64 (zaw.wrap (((p:Nat):Int)+1))) kj (congrArg (zam .i64) (i64n _ _ (by omega) (by omega)))) ?_
  refine sg 1 kj <| Qal ?_
  have rg_:W3.heap[g4]? = some (.cells (cat [ints .u32 (fill (S0.l.map wv) 8 (p+1)),ints .u8 (zat 64 0),#[.int .i64 0]]) 167):=by have h9:=r4_3; rw [Qc3 (n:=8) rfl hlt8] at h9; exact h9
  repeat (first | with_reducible refine goX1 ?_ | with_reducible refine goX2 ?_ | with_reducible refine goX3 ?_)
  exact Qa5 (p+1) ⟨kj,kj,kj,kj,kj,trivial⟩ ⟨(by omega),rg_,(zb4 q2 p3 (.inl (by simp))),(zbr p3 xx1 b4)⟩ (by show 8-(p+1)<8-p; omega)
 ·skip
  have heq8:p=8:=by have:=of_decide_eq_false c9; omega
  have rh_:V1.heap[g4]? = some (.cells (cat [ints .u32 (S0.l.map wv),ints .u8 (zat 64 0),#[.int .i64 0]]) 167):=by have h9:=q4_1; rw [heq8,QcW (show (S0.l.map wv).length=8 from rfl)] at h9; exact h9
  refine wp_exit <| hK5 _ _ <| sgB kj <| wp_ret ?_
  repeat (first | with_reducible refine goR1 ?_ | with_reducible refine goR2 ?_)
  exact (show bodyPost _ _ _ .ret _ _ from ret1 (.pointer (some ⟨g4,0,none⟩)) rfl (Qaz kj) ⟨_,rfl,xx1,_,rfl,b4,zat 64 0,qZ,bytes_zeros 64,rfl,zav _,rh_⟩)
end Sha
end
section
namespace Sha
open Go Go.RowKit
open Rely Auto Own
theorem Qnv (x : Int):zae.wrap x=x%256:=by
  have:zae.wrap x=x%2^8:=rfl
  rw [this]; rfl
theorem Qny (x : Wd) (n d:Nat) (h:2^n=d):zae.wrap (wv (x>>>n))=((x.toNat/d%256:Nat):Int):=by
  subst h
  rw [Qnv]; unfold wv; rw [BitVec.toNat_ushiftRight,Nat.shiftRight_eq_div_pow]; omega
theorem out_byte (s : S8) {a b:Nat} (ha:a<8) (hb:b<4):zae.wrap (wv (wget s.l a>>>(24-8*b)))=nth s.out (4*a+b):=by
  rcases (show b=0∨b=1∨b=2∨b=3 by omega) with rfl | rfl | rfl | rfl <;> rcases (show a=0∨a=1∨a=2∨a=3∨a=4∨a=5∨a=6∨a=7 by omega) with rfl | rfl | rfl | rfl | rfl | rfl | rfl | rfl <;> exact Qny _ _ _ (by decide)
theorem Qha (n : Nat):Qai (QeA n):=fun x hx=>by
  unfold QeA at hx
  rcases zba.1 hx with h | h
  · omega
  · rcases zaL.1 h with h | h
    · exact bytes_zeros _ x h
    · simp only [be8,zba,zbb,or_false] at h
      rcases h with h | h | h | h | h | h | h | h <;> omega
set_option maxHeartbeats 8000000 in
theorem sumC (g : Nat) (t:List Int) (tc:TypeId) (w:World) (hc:w.heap[4]? = some (.cells (ints .u64 QaR) tc)) (hlen:t.length≤900000000) (hd:HasD g t w):Calls Tryd.prog 92 #[.pointer (some ⟨g,0,none⟩)] w (Ret w (.agg (ints .u8 (dig t)))):=by
 obtain ⟨b,hbl,hbb,hbp,hmany,hrow⟩:=hd
 obtain ⟨s,hs⟩:∃ z,z=absorb S0 t (t.length/64):=⟨_,rfl⟩
 rw [←hs] at hrow
 replace hrow:w.heap[g]? = some (.cells (cat [ints .u32 ([wv s.a,wv s.b,wv s.c,wv s.d,wv s.e,wv s.f,wv s.g,wv s.h]),ints .u8 (b),#[.int .i64 ((t.length:Nat):Int)]]) 167):=hrow
 refine enter 43 [(0,.pointer (some ⟨g,0,none⟩))] Tryd.func92 rfl rfl kj rfl <| sgC fun K3 hK3=>Qar (ints .u8 (zat 32 0)) 29 2 rfl kj kj fun g4 W1 l4 e1 r4_1=>?_
 have x1:=zbs (zbo w) e1
 refine sgN hK3 <| sgC fun K5 hK5=>Qar (ints .u8 (zat 32 0)) 29 3 rfl kj kj fun g6 W2 l6 e2 r6_2=>?_
 have x2:=zbs x1 e2
 refine sgN hK5 <| wp_seq_k fun K7 hK7=>sgB kj <| cond_false kj <| wp_skip <| hK7 _ _ <| sgC fun K9 hK9=>sg 2 kj ?_
 have r2_2:=(Qaa (Qaa hrow e1) e2)
 refine Qab (.agg (cat [ints .u32 ([wv s.a,wv s.b,wv s.c,wv s.d,wv s.e,wv s.f,wv s.g,wv s.h]),ints .u8 (b),#[.int .i64 ((t.length:Nat):Int)]])) 13 rfl kj (Qap 167 _ g 167 _ _ r2_2 rfl kj kj (isz (n:=73) kj (by rw [Qac,Qac,Qac]; simp only [qS,cat,(izT hbl)]; rfl))) ?_
 refine Qar (cat [ints .u32 ([0,0,0,0,0,0,0,0]),ints .u8 (zat 64 0),#[.int .i64 0]]) 167 4 rfl kj kj fun g10 W3 l10 e3 r10_3=>?_
 have b10:=qT x2.size l10
 refine Qan g10 _ (cat [ints .u32 ([wv s.a,wv s.b,wv s.c,wv s.d,wv s.e,wv s.f,wv s.g,wv s.h]),ints .u8 (b),#[.int .i64 ((t.length:Nat):Int)]]) 167 r10_3 rfl kj (Qao 167 _ _ g10 167 _ _ r10_3 rfl kj kj (isz (n:=73) kj (by rw [Qac,Qac,Qac]; simp only [qS,cat,(izT hbl)]; rfl)) (eqsz (n:=73) (by rw [Qac,Qac,Qac]; simp only [qS,cat,(izT (qZ (n:=64)))]; rfl) (by rw [Qac,Qac,Qac]; simp only [qS,cat,(izT hbl)]; rfl)) (Qbn _ (by intro a ha; simp only [zba,zbb,or_false] at ha; rcases ha with rfl | rfl | rfl; exact (Qay _ _); exact (Qay _ _); exact (Qa6 _ rfl)))) fun W4 p4 r10_4=>?_
 refine sgN hK9 <| sgC fun K11 hK11=>sg 3 kj <| Qab (.int .i64 ((t.length:Nat):Int)) 17 rfl kj (Qad 3 _ g 72 167 _ (.int .i64 ((t.length:Nat):Int)) _ (rpn p4 r2_2 e3 l10) rfl kj (Qam [ints .u32 ([wv s.a,wv s.b,wv s.c,wv s.d,wv s.e,wv s.f,wv s.g,wv s.h]),ints .u8 (b)] [#[.int .i64 ((t.length:Nat):Int)]] [] 72 (by rw [Qac,Qac]; simp only [qS,cat,(izT hbl)]; rfl) 0 _ rfl) kj) ?_
 refine Qav (fun v W'=>(OwnN .u8 5 W4.heap.size (QeA t.length)) v W'∧Ext W4 W') 95 #[.int .i64 ((t.length:Nat):Int),.int .i64 64,.int .i64 8] 18 rfl kj kj ((Qlh t.length (by omega) _).mono (by rintro e w' ⟨v,rfl,e1,hv⟩; exact ⟨v,rfl,hv,e1⟩)) fun vv12 W5 hh12=>?_
 obtain ⟨hv12,e5⟩:=hh12
 have r1_2:=(Qaa (Qaa hc e1) e2)
 have hd4:HasD g10 t W5:=⟨b,hbl,hbb,hbp,hmany,by rw [←hs]; exact (Qaa r10_4 e5)⟩
 have hp4:=hv12
 have hfl:Qb1 t.length<64:=by unfold Qb1; omega
 have hpl:t.length+(QeA t.length).length≤1000000000:=by rw [Qgm]; omega
 refine Qav (fun v W'=>v=.tuple #[]∧ExtB g10 W5 W'∧HasD g10 (t++QeA t.length) W') 91 #[.pointer (some ⟨g10,0,none⟩),vv12] 19 rfl kj kj ((addC g10 _ t (QeA t.length) _ tc _ (Qaa (rpn p4 r1_2 e3 l10) e5) (Qag r1_2 l10) (.inr (hp4.nb (Qaq r10_4))) (Qha _) hpl hd4 (zbz hp4)).mono fun e w' h=>⟨_,h.1,rfl,h.2⟩) fun v W6 h=>?_
 obtain ⟨rfl,q6,hD5⟩:=h
 obtain ⟨b5,hbl5,hbb5,-,-,hrow5⟩:=hD5
 obtain ⟨s5,hs5⟩:∃ z,z=absorb S0 (padT t) ((padT t).length/64):=⟨_,rfl⟩
 rw [show t++QeA t.length=padT t from rfl,←hs5] at hrow5
 replace hrow5:W6.heap[g10]? = some (.cells (cat [ints .u32 ([wv s5.a,wv s5.b,wv s5.c,wv s5.d,wv s5.e,wv s5.f,wv s5.g,wv s5.h]),ints .u8 (b5),#[.int .i64 (((padT t).length:Nat):Int)]]) 167):=hrow5
 refine sgN hK11 <| wp_seq_k fun K13 hK13=>sgC fun K14 hK14=>sg 1 kj <| Qab (.agg (ints .u32 ([wv s5.a,wv s5.b,wv s5.c,wv s5.d,wv s5.e,wv s5.f,wv s5.g,wv s5.h]))) 21 rfl kj (Qa0 165 _ g10 0 167 _ _ _ hrow5 rfl kj (Qam [] [ints .u32 ([wv s5.a,wv s5.b,wv s5.c,wv s5.d,wv s5.e,wv s5.f,wv s5.g,wv s5.h])] [ints .u8 (b5),#[.int .i64 (((padT t).length:Nat):Int)]] 0 kj) kj (isz (n:=8) kj kj)) <| sg 1 kj <| sgN hK14 <| wp_block <| QaF (fun (s1:Nat)=>[(2,.pointer (some ⟨g4,0,none⟩)),(3,.pointer (some ⟨g6,0,none⟩)),(21,.agg (ints .u32 ([wv s5.a,wv s5.b,wv s5.c,wv s5.d,wv s5.e,wv s5.f,wv s5.g,wv s5.h]))),(22,.int .i64 ((s1:Nat):Int))]) (fun (s1:Nat) W=>(s1≤8)∧(W.heap[g6]? = some (.cells (ints .u8 (fill s5.out 32 (4*s1))) 29))∧(Qaf [g6] W6 W)∧(Ext w W)) (fun (s1:Nat)=>8-s1) 0 ⟨kj,kj,kj,kj,trivial⟩ ⟨(zav _),(QaH (zbv q6 (Qaa (rpn p4 r6_2 e3 l10) e5) (Qag r6_2 l10)) (Qdx s5.out 32).symm),(zb1 [g6] W6),(zbw (zbs (zbr p4 (zbs x2 e3) b10) e5) q6 b10)⟩ fun s1 X1 V1 hI1=>?_
 obtain ⟨i,hs1⟩:∃ z,z=s1:=⟨_,rfl⟩
 subst hs1
 obtain ⟨hi,q6_1,kk1,xx1⟩:=hI1
 replace hi:i≤8:=hi
 replace q6_1:V1.heap[g6]? = some (.cells (ints .u8 (fill s5.out 32 (4*i))) 29):=q6_1
 replace kk1:Qaf [g6] W6 V1:=kk1
 replace xx1:Ext w V1:=xx1
 have q7:=kk1
 refine sgB kj <| wp_seq_k fun K16 hK16=>Qa2 (t:=decide (((i:Nat):Int)<8)) kj (fun c17=>?_) (fun c17=>?_)
 ·skip
  have hlt23:i<8:=by have:=of_decide_eq_true c17; omega
  refine wp_skip <| hK16 _ _ <| wp_seq_k fun K18 hK18=>wp_block <| sgC fun K19 hK19=>sg 1 kj <| Qab (.int .u32 (wv (wget s5.l i))) 25 rfl kj (QaB 165 _ _ .i64 .u32 ([wv s5.a,wv s5.b,wv s5.c,wv s5.d,wv s5.e,wv s5.f,wv s5.g,wv s5.h]) i 8 119 (wv (wget s5.l i)) rfl kj kj kj kj kj rfl (by omega) (show nth (s5.l.map wv) i=_ from QbZ _ _)) <| sg 2 kj <| sgN hK19 <| sgB kj ?_
  refine wp_block <| QaF (fun (s2:Nat)=>[(2,.pointer (some ⟨g4,0,none⟩)),(3,.pointer (some ⟨g6,0,none⟩)),(5,.int .i64 ((i:Nat):Int)),(6,.int .u32 (wv (wget s5.l i))),(21,.agg (ints .u32 ([wv s5.a,wv s5.b,wv s5.c,wv s5.d,wv s5.e,wv s5.f,wv s5.g,wv s5.h]))),(22,.int .i64 ((i:Nat):Int)),(26,.int .i64 ((s2:Nat):Int))]) (fun (s2:Nat) W=>(s2≤4)∧(W.heap[g6]? = some (.cells (ints .u8 (fill s5.out 32 (4*i+s2))) 29))∧(Qaf [g6] V1 W)∧(Ext w W)) (fun (s2:Nat)=>4-s2) 0 ⟨kj,kj,kj,kj,kj,kj,kj,trivial⟩ ⟨(zav _),(QaH q6_1 (show _=fill s5.out 32 (4*i+0) from rfl)),(zb1 [g6] V1),xx1⟩ fun s2 X2 V2 hI2=>?_
  obtain ⟨j,hs2⟩:∃ z,z=s2:=⟨_,rfl⟩
  subst hs2
  obtain ⟨hj,q6_2,kk2,xx2⟩:=hI2
  replace hj:j≤4:=hj
  replace q6_2:V2.heap[g6]? = some (.cells (ints .u8 (fill s5.out 32 (4*i+j))) 29):=q6_2
  replace kk2:Qaf [g6] V1 V2:=kk2
  replace xx2:Ext w V2:=xx2
  have q8:=kk2
  refine sgB kj <| wp_seq_k fun K22 hK22=>Qa2 (t:=decide (((j:Nat):Int)<4)) kj (fun c23=>?_) (fun c23=>?_)
  ·skip
   have hlt27:j<4:=by have:=of_decide_eq_true c23; omega
   refine wp_skip <| hK22 _ _ <| wp_seq_k fun K24 hK24=>wp_block <| sgB kj <| Qae <| sg 1 kj <| Qab (.int .i64 ((4*i:Nat):Int)) 30 rfl kj (Qah (u:=.int .i64 (zaw.wrap (4*((i:Nat):Int)))) kj (congrArg (zam .i64) (i64n _ _ (by omega) (by omega)))) <| sg 1 kj <| Qab (.int .i64 (((4*i)+j:Nat):Int)) 32 rfl kj (Qah (u:=.int .i64 (zaw.wrap (((4*i:Nat):Int)+((j:Nat):Int)))) kj (congrArg (zam .i64) (i64n _ _ (by omega) (by omega)))) ?_
   refine sg 2 kj <| Qab (.int .i64 ((8*j:Nat):Int)) 35 rfl kj (Qah (u:=.int .i64 (zaw.wrap (8*((j:Nat):Int)))) kj (congrArg (zam .i64) (i64n _ _ (by omega) (by omega)))) <| Qab (.int .i64 (((24-8*j:Nat):Int))) 36 rfl kj (Qah (u:=.int .i64 (zaw.wrap (24-((8*j:Nat):Int)))) kj (congrArg (zam .i64) (i64n _ _ (by omega) (by omega)))) <| Qab (.int .u32 (wv (wget s5.l i>>>(24-8*j)))) 37 rfl kj (QaM .shr _ _ _ _ .u32 .i64 _ _ _ rfl kj kj (QbW _ _ _ _ _ _ (by omega) (Qi0 _ _ (24-8*j) rfl (by omega)))) <| Qab (.int .u8 (nth s5.out (4*i+j))) 38 rfl kj (Qah (u:=.int .u8 (zae.wrap (wv (wget s5.l i>>>(24-8*j))))) kj (congrArg (zam .u8) (out_byte s5 hlt23 hlt27))) <| Qab (.pointer (some ⟨g6,(4*i)+j,none⟩)) 39 rfl kj (QaC _ _ _ .i64 ((4*i)+j) _ 32 5 rfl kj kj kj kj (by omega)) <| Qan g6 _ (ints .u8 ((fill s5.out 32 (4*i+j)).set ((4*i)+j) (nth s5.out (4*i+j)))) 29 q6_2 rfl kj (Qa1 5 _ _ g6 ((4*i)+j) 29 _ _ q6_2 rfl kj kj kj (zal (by omega) (Qb2 (show s5.out.length=32 from rfl) (by omega)).symm)) fun W9 p9 r6_9=>Qal <| hK24 _ _ <| Qae ?_
   refine Qab (.int .i64 ((j+1:Nat):Int)) 40 rfl kj (Qah (u:=.int .i64 (zaw.wrap (((j:Nat):Int)+1))) kj (congrArg (zam .i64) (i64n _ _ (by omega) (by omega)))) <| sg 1 kj <| Qal ?_
   repeat (first | with_reducible refine goX1 ?_ | with_reducible refine goX2 ?_ | with_reducible refine goX3 ?_)
   exact Qa5 (j+1) ⟨kj,kj,kj,kj,kj,kj,kj,trivial⟩ ⟨(by omega),(QaH r6_9 (Qc3 (show s5.out.length=32 from rfl) (by omega))),(zb4 q8 p9 (.inl (by simp))),(zbr p9 xx2 (qT x1.size l6))⟩ (by show 4-(j+1)<4-j; omega)
  ·skip
   have heq27:j=4:=by have:=of_decide_eq_false c23; omega
   have r6_8_26:V2.heap[g6]? = some (.cells (ints .u8 (fill s5.out 32 (4*(i+1)))) 29):=QaH q6_2 (by rw [heq27]; rfl)
   refine wp_exit <| hK18 _ _ <| Qae <| Qab (.int .i64 ((i+1:Nat):Int)) 41 rfl kj (Qah (u:=.int .i64 (zaw.wrap (((i:Nat):Int)+1))) kj (congrArg (zam .i64) (i64n _ _ (by omega) (by omega)))) <| sg 1 kj <| Qal ?_
   repeat (first | with_reducible refine goX1 ?_ | with_reducible refine goX2 ?_ | with_reducible refine goX3 ?_)
   exact Qa5 (i+1) ⟨kj,kj,kj,kj,trivial⟩ ⟨(by omega),r6_8_26,(Qaf.keeps q7 q8 (QfS (.inl (by simp)) QhR)),xx2⟩ (by show 8-(i+1)<8-i; omega)
 ·skip
  have heq23:i=8:=by have:=of_decide_eq_false c17; omega
  have r6_7_27:V1.heap[g6]? = some (.cells (ints .u8 (s5.out)) 29):=QaH q6_1 (by rw [heq23]; exact QcW (show s5.out.length=32 from rfl))
  refine wp_exit <| hK13 _ _ <| sgC fun K28 hK28=>Qab (.agg (ints .u8 (s5.out))) 42 rfl kj (Qap 29 _ g6 29 _ _ r6_7_27 rfl kj kj (isz (n:=32) kj (izT (show s5.out.length=32 from rfl)))) ?_
  have r4_2:=(Qaa r4_1 e2)
  have r4_7:=(zb2 q7 (zbv q6 (Qaa (rpn p4 r4_2 e3 l10) e5) (Qag r4_2 l10)) (Qax (Qag r4_1 l6) QaE))
  refine Qan g4 _ (ints .u8 (s5.out)) 29 r4_7 rfl kj (Qao 29 _ _ g4 29 _ _ r4_7 rfl kj kj (isz (n:=32) kj (izT (show s5.out.length=32 from rfl))) (eqsz (n:=32) (izT (qZ (n:=32))) (izT (show s5.out.length=32 from rfl))) (Qay _ _)) fun W8 p8 r4_8=>sgN hK28 <| wp_ret ?_
  repeat (first | with_reducible refine goR1 ?_ | with_reducible refine goR2 ?_)
  exact (show bodyPost _ _ _ .ret _ _ from ret1 (.agg (ints .u8 (s5.out))) rfl (QaP g4 29 _ r4_8 kj kj (isz (n:=32) kj (izT (show s5.out.length=32 from rfl)))) ⟨by rw [show dig t=s5.out by rw [hs5]; rfl],(zbr p8 xx1 (qT (zbo w).size l4))⟩)
end Sha
end
section
namespace Sha
open Go Go.RowKit
open Rely Auto Own
def pat (ps : List (Value×List Int)) (i:Nat):Value×List Int:=ps.getD i (undef,[])
def flat (ps : List (Value×List Int)) (i:Nat):List Int:=((ps.take i).map Prod.snd).flatten
theorem QjD {ps : List (Value×List Int)} {i:Nat} (h:i<ps.length):pat ps i=ps[i]:=by simp [pat,h]
theorem QfQ {ps : List (Value×List Int)} {i:Nat} (h:i<ps.length):pat ps i∈ps:=by rw [QjD h]; exact List.getElem_mem h
theorem QlV {ps : List (Value×List Int)} {i:Nat} (h:i<ps.length):(ps.map Prod.fst).toArray[i]? = some (pat ps i).1:=by
  rw [QjD h]; simp [h]
theorem Qfh {ps : List (Value×List Int)} {i:Nat} (h:i<ps.length):flat ps (i+1)=flat ps i++(pat ps i).2:=by
  unfold flat
  rw [zbc,zbd h,QjD h,zaP,zbe]
  show _++[ps[i].2].flatten=_
  rw [List.flatten_singleton]
theorem QdZ {ps : List (Value×List Int)} {n:Nat} (h:ps.length=n):flat ps n=(ps.map Prod.snd).flatten:=by
  subst h; simp [flat]
theorem Qkp {ps : List (Value×List Int)} {i:Nat} (h:i<ps.length):(flat ps i).length+(pat ps i).2.length≤((ps.map Prod.snd).flatten).length:=by
  have e:(flat ps (i+1)).length=(flat ps i).length+(pat ps i).2.length:=by rw [Qfh h,zaB]
  rw [←e]
  have:(ps.map Prod.snd).flatten=flat ps (i+1)++((ps.drop (i+1)).map Prod.snd).flatten:=by
    unfold flat
    rw [←zbe,←zaP,zbf]
  rw [this,zaB]; omega
theorem Qm8 (s : S8):s.out.length=32:=rfl
theorem QbQ (t : List Int):(dig t).length=32:=Qm8 _
theorem QlQ (gp n:Nat) (Tp:TypeId) (ps:List (Value×List Int)) (hn:ps.length=n) (hn9:n≤1000000) (tc tq:TypeId) (w:World) (hc:w.heap[4]? = some (.cells (ints .u64 QaR) tc)) (hq:w.heap[3]? = some (.cells (ints .u64 Qa9) tq)) (hrow:w.heap[gp]? = some (.cells (ps.map Prod.fst).toArray Tp)) (hps:∀ p∈ps,RdK .u8 w.heap.size p.2 p.1 w∧Qai p.2) (hlen:((ps.map Prod.snd).flatten).length≤900000000):Calls Tryd.prog 93 #[.slice (some ⟨gp,0,none⟩) n n] w (Ret w (.agg (ints .u8 (dig ((ps.map Prod.snd).flatten))))):=by
 refine enter 19 [(0,.slice (some ⟨gp,0,none⟩) n n)] Tryd.func93 rfl rfl kj rfl <| sgC fun K4 hK4=>Qar (ints .u8 (zat 32 0)) 29 2 rfl kj kj fun g5 W1 l5 e1 r5_1=>?_
 have x1:=zbs (zbo w) e1
 refine sgN hK4 <| sgC fun K6 hK6=>Qav (fun v W'=>(fun v W=>∃ g,v=.pointer (some ⟨g,0,none⟩)∧W1.heap.size≤g∧HasD g [] W) v W'∧Ext W1 W') 90 #[] 6 rfl kj kj ((newC tq _ (Qaa hq e1)).mono (by rintro e w' ⟨v,rfl,e1,hv⟩; exact ⟨v,rfl,hv,e1⟩)) fun vv7 W2 hh7=>?_
 obtain ⟨hv7,e2⟩:=hh7
 obtain ⟨gd8,rfl,ld8,hD8⟩:=hv7
 have b8:=qT x1.size ld8
 refine sg 1 kj <| sgN hK6 <| wp_seq_k fun K9 hK9=>sgB kj <| wp_block <| QaF (fun (s1:Nat)=>[(7,.slice (some ⟨gp,0,none⟩) n n),(8,.int .i64 ((n:Nat):Int)),(9,.int .i64 ((s1:Nat):Int)),(3,.pointer (some ⟨gd8,0,none⟩)),(2,.pointer (some ⟨g5,0,none⟩))]) (fun (s1:Nat) W=>(s1≤n)∧(HasD gd8 (flat ps s1) W)∧(Qaf [gd8] W2 W)∧(Ext w W)) (fun (s1:Nat)=>n-s1) 0 ⟨kj,kj,kj,kj,kj,trivial⟩ ⟨(zav _),(show HasD _ (flat ps 0) _ from hD8),(zb1 [gd8] W2),(zbs x1 e2)⟩ fun s1 X1 V1 hI1=>?_
 obtain ⟨i,hs1⟩:∃ z,z=s1:=⟨_,rfl⟩
 subst hs1
 obtain ⟨hi,hDi,kk1,xx1⟩:=hI1
 replace hi:i≤n:=hi
 replace hDi:HasD gd8 (flat ps i) V1:=hDi
 replace kk1:Qaf [gd8] W2 V1:=kk1
 replace xx1:Ext w V1:=xx1
 have q3:=kk1
 refine sgB kj <| wp_seq_k fun K12 hK12=>Qa2 (t:=decide (((i:Nat):Int)<((n:Nat):Int))) kj (fun c13=>?_) (fun c13=>?_)
 ·skip
  have hlt10:i<n:=by have:=of_decide_eq_true c13; omega
  refine wp_skip <| hK12 _ _ <| wp_seq_k fun K14 hK14=>wp_block <| sgC fun K15 hK15=>?_
  have hi2:i<ps.length:=by omega
  refine Qab (.pointer (some ⟨gp,i,none⟩)) 11 rfl kj (Qbf 123 _ _ .i64 i gp n n 33 rfl kj kj kj kj hlt10) ?_
  have r3_1:=(Qaa hrow e1)
  refine Qab ((pat ps i).1) 12 rfl kj (Qbi 33 _ _ ((pat ps i).1) (Qdb (zb2 q3 (Qaa r3_1 e2) (Qax (Qag r3_1 ld8) QaE)) (QlV hi2)) rfl kj kj) <| sg 1 kj <| sgN hK15 <| Qae <| sg 2 kj ?_
  have r1_1:=(Qaa hc e1)
  have r1_2:=(Qaa r1_1 e2)
  have r1_3:=(zb2 q3 r1_2 (Qax (Qag r1_1 ld8) QaE))
  have hp6:=(hps _ (QfQ hi2)).1.ext xx1
  have hl6:=Qkp hi2
  refine Qav (fun v W'=>v=.tuple #[]∧ExtB gd8 V1 W'∧HasD gd8 ((flat ps i)++(pat ps i).2) W') 91 #[.pointer (some ⟨gd8,0,none⟩),(pat ps i).1] 15 rfl kj kj ((addC gd8 _ _ _ _ tc _ r1_3 (zbg (qL (Qaq hc) b8)) (hp6.nb b8) (hps _ (QfQ hi2)).2 (by omega) hDi hp6).mono fun e w' h=>⟨_,h.1,rfl,h.2⟩) fun v W4 h=>?_
  obtain ⟨rfl,q4,hDn⟩:=h
  have x4:=zbw xx1 q4 b8
  refine Qal <| hK14 _ _ <| Qae <| Qab (.int .i64 ((i+1:Nat):Int)) 16 rfl kj (Qah (u:=.int .i64 (zaw.wrap (((i:Nat):Int)+1))) kj (congrArg (zam .i64) (i64n _ _ (by omega) (by omega)))) <| sg 1 kj <| Qal ?_
  repeat (first | with_reducible refine goX1 ?_ | with_reducible refine goX2 ?_ | with_reducible refine goX3 ?_)
  exact Qa5 (i+1) ⟨kj,kj,kj,kj,kj,trivial⟩ ⟨(by omega),(by rw [Qfh hi2]; exact hDn),(Qaf.but q3 q4 (.inl (by simp))),x4⟩ (by omega)
 ·skip
  have heq10:i=n:=by have:=of_decide_eq_false c13; omega
  refine wp_exit <| hK9 _ _ <| sgC fun K16 hK16=>sg 1 kj ?_
  have r1_1:=(Qaa hc e1)
  have r1_2:=(Qaa r1_1 e2)
  have r1_3:=(zb2 q3 r1_2 (Qax (Qag r1_1 ld8) QaE))
  refine Qau (.agg (ints .u8 (dig (flat ps i)))) 92 #[.pointer (some ⟨gd8,0,none⟩)] 18 rfl kj kj (sumC gd8 _ tc _ r1_3 (by rw [heq10,QdZ hn]; exact hlen) hDi) fun W4 e4=>?_
  have x4:=zbs xx1 e4
  have r5_4:=(Qaa (zb2 q3 (Qaa r5_1 e2) (Qax (Qag r5_1 ld8) QaE)) e4)
  refine Qan g5 _ (ints .u8 (dig (flat ps i))) 29 r5_4 rfl kj (Qao 29 _ _ g5 29 _ _ r5_4 rfl kj kj (isz (n:=32) kj (izT (QbQ _))) (eqsz (n:=32) (izT (qZ (n:=32))) (izT (QbQ _))) (Qay _ _)) fun W5 p5 r5_5=>sgN hK16 <| wp_ret ?_
  repeat (first | with_reducible refine goR1 ?_ | with_reducible refine goR2 ?_)
  exact (show bodyPost _ _ _ .ret _ _ from ret1 (.agg (ints .u8 (dig (flat ps i)))) rfl (QaP g5 29 _ r5_5 kj kj (isz (n:=32) kj (izT (QbQ _)))) ⟨by rw [heq10,QdZ hn],(zbr p5 x4 (qT (zbo w).size l5))⟩)
end Sha
end
section
namespace Sha
open Go Go.RowKit
open Rely Auto Own
theorem Qjm (x : Wd):Qai (wby x):=fun y hy=>by
  simp only [wby,zba,zbb,or_false] at hy
  rcases hy with h | h | h | h <;> omega
theorem QgQ (t : List Int):Qai (dig t):=fun y hy=>by
  unfold dig S8.out at hy
  obtain ⟨x,_,h⟩:=List.mem_flatMap.1 hy
  exact Qjm x y h
def xorb (c x:Int):Int:=bits .xor .u8 x c
theorem Qjh (c x:Int):0≤xorb c x∧xorb c x≤255:=by
  unfold xorb bits
  have:∀ z:Int,zae.wrap z=z%2^8:=fun _=>rfl
  rw [this]; omega
def keyL (key : List Int):List Int:=if 64<key.length then dig key else key
def keyB (key : List Int):List Int:=keyL key++zat (64-(keyL key).length) 0
def padX (c : Int) (key:List Int):List Int:=(keyB key).map (xorb c)
def hmac (key t:List Int):List Int:=dig (padX 92 key++dig (padX 54 key++t))
theorem Qlu (key : List Int):(keyL key).length≤64:=by
  unfold keyL
  split
  · rw [QbQ]; decide
  · omega
theorem QbY (key : List Int):(keyB key).length=64:=by
  have:=Qlu key
  simp [keyB]; omega
theorem QaK (c : Int) (key:List Int):(padX c key).length=64:=by rw [padX,zaI,QbY]
theorem Qf3 (c : Int) (key:List Int):Qai (padX c key):=fun y hy=>by
  obtain ⟨x,_,rfl⟩:=za0.1 hy
  exact Qjh c x
theorem QeH (c : Int) (key:List Int) {i:Nat} (h:i<64):nth (padX c key) i=bits .xor .u8 (nth (keyB key) i) c:=by
  have hl:=QbY key
  show nth ((keyB key).map (xorb c)) i=xorb c (nth (keyB key) i)
  simp [nth,za1,show i<(keyB key).length by omega]
theorem Qcv (key t:List Int):(hmac key t).length=32:=QbQ _
theorem Qjc (key t:List Int):Qai (hmac key t):=QgQ _
def puts (xs ys:List Int) (m:Nat):List Int:=xs.take m++ys.drop m
theorem QhK {xs ys:List Int} {n m:Nat} (hx:xs.length=n) (hy:ys.length=n) (hm:m≤n):(puts xs ys m).length=n:=by simp [puts]; omega
theorem Qgz (xs ys:List Int):puts xs ys 0=ys:=by simp [puts]
theorem Qg0 {xs ys:List Int} {n:Nat} (hx:xs.length=n) (hy:ys.length=n):puts xs ys n=xs:=by
  unfold puts
  rw [zab (by omega),zaX (by omega),zbh]
theorem QhJ {xs ys:List Int} {n m:Nat} (hx:xs.length=n) (hy:ys.length=n) (hm:m<n):(puts xs ys m).set m (nth xs m)=puts xs ys (m+1):=by
  unfold puts
  have hl:(xs.take m).length=m:=by rw [zah]; omega
  rw [zaZ _ _ (by omega),hl,zaE,List.drop_eq_getElem_cons (by omega),zaY,zbc,zbd (by omega),zaS]
  simp [nth,show m<xs.length by omega]
section
variable {ds : List Deferred} {P : Program} {ops : Array Oper} {Q : Exit → Act → World → Prop} {rest : List Oper} {o : Oper} {N : Nat} {L : Env} {W : World}
theorem Qgr {k : IntKind} {e:TypeId} (x y:Operand) (tx ty:TypeId) (d:Nat) (ho:o.op=.call { callee:=.builtin .copy,args:=#[x,y],argTypes:=#[tx,ty] }) (hu:P.underlying tx=some (.slice e)) (hsz:(P.info? e).map (·.size)=some 1) (hd:o.dst=some d) (hgd:Qbm ops o N L=some true)
    {g off dl dc n B:Nat} {xs z:List Int} {v:Value} {T:TypeId} (hx:Rely.look (envN N L) x=.slice (some ⟨g,off,none⟩) dl dc) (hy:Rely.look (envN N L) y=v) (hr:RdK k B z v W)
    (hg:W.heap[g]? = some (.cells (ints k xs) T)) (hq:off+dl≤xs.length) (hn:n=min z.length dl)
    (kk:∀ W':World,Puts W g W'→W'.heap[g]? = some (.cells (ints k (xs.take off++z.take n++xs.drop (off+n))) T)→WL P ops Q rest (Qaw ds N ((d,.int .i64 ((n:Nat):Int))::L)) W'):WL P ops Q (o::rest) (Qaw ds N L) W:=by
  obtain ⟨a,cap,rfl,y2,y3,y4,y5⟩:=hr
  have hgo:∀ W',(Builtin.copy_ #[tx,ty] o.type #[.slice (some ⟨g,off,none⟩) dl dc,.slice a z.length cap]).run P W=.ok (goInt n) W'→(execOp (Rely.look (envN N L)) o).run P W=.ok (.value (.int .i64 ((n:Nat):Int))) W':=fun W' h=>by
    unfold execOp
    simp only [ho,resolve,invoke,builtin,za7,za9,za8,zaT,zaU,zaV,hx,hy,h,goInt]
  rcases zbi n with h0 | h0
  · refine Qbz _ _ d hd hgd (hgo W ?_) (kk W ⟨rfl,rfl,rfl,rfl,fun _ _=>rfl⟩ ?_)
    · rw [h0]; exact run_copy_none W tx ty o.type e _ _ _ _ _ _ hu hsz (hn.symm.trans h0)
    · rw [h0,zaq,zbh,zaG,zbf]; exact hg
  · obtain ⟨gz,oz,rfl,z2,z3,z4⟩:=y5.resolve_left (fun e=>by rw [e] at hn; simp at hn; omega)
    have hlen:((z.take n).map (zam k)).length=n:=by simp; omega
    have h:=run_copy_row (P:=P) W tx ty o.type e g off dl dc ⟨gz,oz,none⟩ z.length cap (ints k xs) T ((z.take n).map (zam k)) hu hsz hg (by rw [hlen]; exact hn)
      (QiR (k:=k) (ys:=z.take n) fun i hi=>by
        rw [zah] at hi
        rw [z4 i (by omega)]
        simp [nth,show i<n by omega]) (by rw [hlen,Qat]; omega) (QiN k _)
    rw [hlen] at h
    have e1:((ints k xs).toList.take off++(z.take n).map (zam k)++(ints k xs).toList.drop (off+n)).toArray=ints k (xs.take off++z.take n++xs.drop (off+n)):=by
      apply zaO
      show (xs.map (zam k)).take off++(z.take n).map (zam k)++(xs.map (zam k)).drop (off+n)=(xs.take off++z.take n++xs.drop (off+n)).map (zam k)
      simp only [zaP,zaQ,zaR]
    rw [e1] at h
    exact Qbz _ _ d hd hgd (hgo _ h) (kk _ (QaV _ _ _) (setRow_heap _ _ _ _ _ _ hg))
end
theorem Qkc {key : List Int} (h:64<key.length):(zat 64 (0:Int)).take 0++(dig key).take 32++(zat 64 (0:Int)).drop (0+32)=keyB key:=by
  have hd:=QbQ key
  unfold keyB keyL
  rw [if_pos h,hd,zaq,zan,zab (by omega),zbj]
theorem QiZ {key : List Int} (h:¬ 64<key.length) (n:Nat) (hn:n=min key.length 64):(zat 64 (0:Int)).take 0++key.take n++(zat 64 (0:Int)).drop (0+n)=keyB key:=by
  unfold keyB keyL
  rw [if_neg h,zaq,zan,zab (by omega),zbj,show 64-(0+n)=64-key.length by omega]
end Sha
end
section
namespace Sha
open Go Go.RowKit
open Rely Auto Own
theorem QoD (key : List Int) (v:Value) (B:Nat) (tc tq:TypeId) (w:World) (hc:w.heap[4]? = some (.cells (ints .u64 QaR) tc)) (hq:w.heap[3]? = some (.cells (ints .u64 Qa9) tq)) (hkb:Qai key) (hkl:key.length≤800000000) (hk:RdK .u8 B key v w) :
  Calls Tryd.prog 89 #[v] w (Ret w (.tuple #[.agg (ints .u8 (padX 54 key)),.agg (ints .u8 (padX 92 key))])):=by
 obtain ⟨a_key,c_key,rfl,-⟩:=id hk
 refine enter 35 [(0,.slice a_key key.length c_key)] Tryd.func89 rfl rfl kj rfl <| sgC fun K3 hK3=>Qar (ints .u8 (zat 64 0)) 102 2 rfl kj kj fun g4 W1 l4 e1 r4_1=>?_
 have x1:=zbs (zbo w) e1
 have b4:=qT (zbo w).size l4
 refine Qar (ints .u8 (zat 64 0)) 102 3 rfl kj kj fun g5 W2 l5 e2 r5_2=>?_
 have x2:=zbs x1 e2
 have b5:=qT x1.size l5
 refine sgN hK3 <| wp_seq_k fun K6 hK6=>sgB kj <| Qa2 (t:=decide (((key.length:Nat):Int)>64)) kj (fun c8=>?_) (fun c8=>?_)
 ·skip
  have hlong:64<key.length:=by have:=of_decide_eq_true c8; omega
  refine sgC fun K9 hK9=>sg 1 kj <| QaU (#[.slice a_key key.length c_key]) 33 1 11 rfl kj kj fun g10 W3 l10 e3 r10_3=>?_
  have x3:=zbs x2 e3
  have b10:=qT x2.size l10
  have hps11:∀ p∈([(.slice a_key key.length c_key,key)]:List (Value×List Int)),RdK .u8 W3.heap.size p.2 p.1 W3∧Qai p.2:=by
   intro p hp
   simp only [zba,zbb,or_false] at hp
   rcases hp with rfl
   ·exact ⟨zb5 (zby hk x3),hkb⟩
  have hsh11:=QlQ g10 1 _ ([(.slice a_key key.length c_key,key)]:List (Value×List Int)) rfl (by decide) tc tq W3 (Qaa (Qaa (Qaa hc e1) e2) e3) (Qaa (Qaa (Qaa hq e1) e2) e3) r10_3 hps11 (by simp only [zaU,zaV,zbk,zbl,zbh,zaB]; omega)
  rw [show ((List.map Prod.snd ([(.slice a_key key.length c_key,key)]:List (Value×List Int))).flatten)=key by simp only [zaU,zaV,zbk,zbl,zbh]] at hsh11
  refine Qau (.agg (ints .u8 (dig (key)))) 93 #[.slice (some ⟨g10,0,none⟩) 1 1] 12 rfl kj kj hsh11 fun W4 e4=>?_
  have x4:=zbs x3 e4
  refine Qar (ints .u8 (zat 32 0)) 29 4 rfl kj kj fun g12 W5 l12 e5 r12_5=>?_
  have x5:=zbs x4 e5
  refine Qan g12 _ (ints .u8 (dig (key))) 29 r12_5 rfl kj (Qao 29 _ _ g12 29 _ _ r12_5 rfl kj kj (isz (n:=32) kj (izT (QbQ _))) (eqsz (n:=32) (izT (qZ (n:=32))) (izT (QbQ _))) (Qay _ _)) fun W6 p6 r12_6=>?_
  have x6:=zbr p6 x5 (qT x4.size l12)
  refine sgN hK9 <| Qbg 2 [⟨none,[(2,none)]⟩,⟨none,[(4,none)]⟩] kj kj fun F hF=>Qa8 (Qas _) (.slice (some ⟨g4,0,none⟩) 64 64) kj kj (fun _=>kj) <| Qa8 (Qas _) (.slice (some ⟨g12,0,none⟩) 32 32) kj kj (fun _=>kj) <| QcO (hF _ fun W7 e7=>?_)
  simp only [zan,zao,zap,zaq,zar,zas,finE,up]
  clear hF
  have x7:=zbs x6 e7
  have r4_2:=(Qaa r4_1 e2)
  have r4_3:=(Qaa r4_2 e3)
  have r4_4:=(Qaa r4_3 e4)
  have r4_5:=(Qaa r4_4 e5)
  have r4_6:=(zbq p6 r4_5 (Qag r4_4 l12))
  have r4_7:=(Qaa r4_6 e7)
  have r12_7:=(Qaa r12_6 e7)
  refine Qgr (k:=.u8) (e:=5) (z:=dig (key)) (.tmp 13) (.tmp 14) 33 33 15 rfl kj kj rfl kj (off:=0) (dl:=64) (dc:=64) (n:=32) (xs:=zat 64 0) kj kj (Qbp (xs:=dig (key)) (n:=32) (QbQ _) r12_7 (Qaq r12_7) (show 32≤maxLen from by decide)) r4_7 (qT (show 0+(64)≤64 from (by omega)) (qE (qZ (n:=64)).symm)) (by rw [QbQ]; rfl) fun W8 p8 r4_8=>?_
  refine Qal <| hK6 _ _ <| wp_seq_k fun K13 hK13=>sgC fun K14 hK14=>?_
  have r4_8_15:W8.heap[g4]? = some (.cells (ints .u8 (keyB key)) 102):=QaH r4_8 (Qkc hlong)
  refine Qab (.agg (ints .u8 (keyB key))) 19 rfl kj (Qap 102 _ g4 102 _ _ r4_8_15 rfl kj kj (isz (n:=64) kj (izT (QbY key)))) <| sg 1 kj <| sgN hK14 <| wp_block ?_
  have n_4_5:g4≠g5:=(Qag r4_1 l5)
  have n_5_4:g5≠g4:=(QaJ r4_1 l5)
  have r5_3:=(Qaa r5_2 e3)
  have r5_4:=(Qaa r5_3 e4)
  have r5_5:=(Qaa r5_4 e5)
  have r5_6:=(zbq p6 r5_5 (Qag r5_4 l12))
  have r5_7:=(Qaa r5_6 e7)
  refine QaF (fun (s1:Nat)=>[(2,.pointer (some ⟨g4,0,none⟩)),(3,.pointer (some ⟨g5,0,none⟩)),(19,.agg (ints .u8 (keyB key))),(20,.int .i64 ((s1:Nat):Int))]) (fun (s1:Nat) W=>(s1≤64)∧(W.heap[g4]? = some (.cells (ints .u8 (puts (padX 54 key) (keyB key) s1)) 102))∧(W.heap[g5]? = some (.cells (ints .u8 (fill (padX 92 key) 64 s1)) 102))∧(Qaf [g4,g5] W8 W)∧(Ext w W)) (fun (s1:Nat)=>64-s1) 0 ⟨kj,kj,kj,kj,trivial⟩ ⟨(zav _),(QaH r4_8_15 (Qgz _ _).symm),(QaH (zbq p8 r5_7 n_5_4) (Qdx _ 64).symm),(zb1 [g4,g5] W8),(zbr p8 x7 b4)⟩ fun s1 X1 V1 hI1=>?_
  obtain ⟨i,hs1⟩:∃ z,z=s1:=⟨_,rfl⟩
  subst hs1
  obtain ⟨hi,q4_1,q5_1,kk1,xx1⟩:=hI1
  replace hi:i≤64:=hi
  replace q4_1:V1.heap[g4]? = some (.cells (ints .u8 (puts (padX 54 key) (keyB key) i)) 102):=q4_1
  replace q5_1:V1.heap[g5]? = some (.cells (ints .u8 (fill (padX 92 key) 64 i)) 102):=q5_1
  replace kk1:Qaf [g4,g5] W8 V1:=kk1
  replace xx1:Ext w V1:=xx1
  have q9:=kk1
  refine sgB kj <| wp_seq_k fun K17 hK17=>Qa2 (t:=decide (((i:Nat):Int)<64)) kj (fun c18=>?_) (fun c18=>?_)
  ·skip
   have hlt21:i<64:=by have:=of_decide_eq_true c18; omega
   refine wp_skip <| hK17 _ _ <| wp_seq_k fun K19 hK19=>wp_block <| sgC fun K20 hK20=>sg 1 kj <| Qab (.int .u8 (nth (keyB key) i)) 23 rfl kj (QaB 102 _ _ .i64 .u8 (keyB key) i 64 5 (nth (keyB key) i) rfl kj kj kj kj kj (QbY key) (by omega) rfl) <| sg 2 kj <| sgN hK20 <| Qae ?_
   refine sg 3 kj <| Qab (.int .u8 (nth (padX 54 key) i)) 27 rfl kj (Qah (u:=.int .u8 (bits .xor .u8 ((nth (keyB key) i)) (54))) kj (congrArg (zam .u8) (QeH 54 key hlt21).symm)) <| sg 1 kj <| Qab (.int .u8 (nth (padX 92 key) i)) 29 rfl kj (Qah (u:=.int .u8 (bits .xor .u8 ((nth (keyB key) i)) (92))) kj (congrArg (zam .u8) (QeH 92 key hlt21).symm)) <| Qab (.pointer (some ⟨g4,i,none⟩)) 30 rfl kj (QaC _ _ _ .i64 (i) _ 64 5 rfl kj kj kj kj (by omega)) <| Qan g4 _ (ints .u8 ((puts (padX 54 key) (keyB key) i).set i (nth (padX 54 key) i))) 102 q4_1 rfl kj (Qa1 5 _ _ g4 i 102 _ _ q4_1 rfl kj kj kj (zal (by omega) (QhK (QaK 54 key) (QbY key) (by omega)).symm)) fun W10 p10 r4_10=>?_
   have x10:=zbr p10 xx1 b4
   refine Qab (.pointer (some ⟨g5,i,none⟩)) 31 rfl kj (QaC _ _ _ .i64 (i) _ 64 5 rfl kj kj kj kj (by omega)) ?_
   have r5_10:=(zbq p10 q5_1 n_5_4)
   refine Qan g5 _ (ints .u8 ((fill (padX 92 key) 64 i).set i (nth (padX 92 key) i))) 102 r5_10 rfl kj (Qa1 5 _ _ g5 i 102 _ _ r5_10 rfl kj kj kj (zal (by omega) (Qb2 (QaK 92 key) (by omega)).symm)) fun W11 p11 r5_11=>?_
   have x11:=zbr p11 x10 b5
   refine Qal <| hK19 _ _ <| Qae <| Qab (.int .i64 ((i+1:Nat):Int)) 32 rfl kj (Qah (u:=.int .i64 (zaw.wrap (((i:Nat):Int)+1))) kj (congrArg (zam .i64) (i64n _ _ (by omega) (by omega)))) <| sg 1 kj <| Qal ?_
   have r4_11:=(zbq p11 r4_10 n_4_5)
   repeat (first | with_reducible refine goX1 ?_ | with_reducible refine goX2 ?_ | with_reducible refine goX3 ?_)
   exact Qa5 (i+1) ⟨kj,kj,kj,kj,trivial⟩ ⟨(by omega),(QaH r4_11 (QhJ (QaK 54 key) (QbY key) hlt21)),(QaH r5_11 (Qc3 (QaK 92 key) hlt21)),(zb4 (zb4 q9 p10 (.inl (by simp))) p11 (.inl (by simp))),x11⟩ (by omega)
  ·skip
   have heq21:i=64:=by have:=of_decide_eq_false c18; omega
   have r4_9_21:V1.heap[g4]? = some (.cells (ints .u8 (padX 54 key)) 102):=QaH q4_1 (by rw [heq21]; exact Qg0 (QaK 54 key) (QbY key))
   have r5_9_22:V1.heap[g5]? = some (.cells (ints .u8 (padX 92 key)) 102):=QaH q5_1 (by rw [heq21]; exact QcW (QaK 92 key))
   refine wp_exit <| hK13 _ _ <| wp_seq_k fun K23 hK23=>QbS (fun W=>W.heap[g5]? = some (.cells (ints .u8 (padX 92 key)) 102)) [⟨none,[(2,none)]⟩,⟨none,[(3,none)]⟩,⟨none,[(2,none),(33,some 0)]⟩,⟨none,[(3,none),(34,some 1)]⟩] [] [1] kj kj kj (fun W hR=>Qaa r5_9_22 hR) fun F hF=>QbM (.agg (ints .u8 (padX 54 key))) kj kj kj rfl (fun W hR=>(Qap 102 _ g4 102 _ _ (Qaa (Qaa r4_9_21 (Qaj _)) hR) rfl kj kj (isz (n:=64) kj (izT (QaK 54 key))))) <| QeW (.agg (ints .u8 (padX 92 key))) kj kj kj rfl (fun W hW=>(Qap 102 _ g5 102 _ _ hW rfl kj kj (isz (n:=64) kj (izT (QaK 92 key))))) <| Qcj rfl <| Qcj rfl <| Qgn (hF _ kj fun W10 e10=>?_)
   simp only [zan,zao,fins,up]
   clear hF
   have x10:=zbs xx1 e10
   have r4_10:=(Qaa r4_9_21 e10)
   have r5_10:=(Qaa r5_9_22 e10)
   refine Qcc _ g4 _ (ints .u8 (padX 54 key)) 102 r4_10 rfl (Qao 102 _ _ g4 102 _ _ r4_10 rfl kj kj (isz (n:=64) kj (izT (QaK 54 key))) (eqsz (n:=64) (izT (QaK 54 key)) (izT (QaK 54 key))) (Qay _ _)) (fun W hp=>zbq hp r5_10 n_5_4) fun W11 p11 r4_11=>?_
   have x11:=zbr p11 x10 b4
   have r5_11:=(zbq p11 r5_10 n_5_4)
   refine Qgj _ g5 _ (ints .u8 (padX 92 key)) 102 r5_11 rfl (Qao 102 _ _ g5 102 _ _ r5_11 rfl kj kj (isz (n:=64) kj (izT (QaK 92 key))) (eqsz (n:=64) (izT (QaK 92 key)) (izT (QaK 92 key))) (Qay _ _)) (fun W hp hrw=>hrw) fun W12 p12 r5_12=>Qew <| hK23 _ _ <| wp_ret ?_
   repeat (first | with_reducible refine goR1 ?_ | with_reducible refine goR2 ?_)
   exact (show bodyPost _ _ _ .ret _ _ from ret2 (.agg (ints .u8 (padX 54 key))) (.agg (ints .u8 (padX 92 key))) rfl (QaP g4 102 _ (zbq p12 r4_11 n_4_5) kj kj (isz (n:=64) kj (izT (QaK 54 key)))) (QaP g5 102 _ r5_12 kj kj (isz (n:=64) kj (izT (QaK 92 key)))) ⟨rfl,(zbr p12 x11 b5)⟩)
 ·skip
  have hlong:¬ 64<key.length:=by have:=of_decide_eq_false c8; omega
  refine Qae <| sg 2 kj ?_
  have r4_2:=(Qaa r4_1 e2)
  refine Qgr (k:=.u8) (e:=5) (z:=key) (.tmp 16) (.tmp 17) 33 33 18 rfl kj kj rfl kj (off:=0) (dl:=64) (dc:=64) (n:=(min key.length 64)) (xs:=zat 64 0) kj kj (zby hk x2) r4_2 (qT (show 0+(64)≤64 from (by omega)) (qE (qZ (n:=64)).symm)) rfl fun W3 p3 r4_3=>?_
  have x3:=zbr p3 x2 b4
  refine Qal <| hK6 _ _ <| wp_seq_k fun K24 hK24=>sgC fun K25 hK25=>?_
  have r4_3_26:W3.heap[g4]? = some (.cells (ints .u8 (keyB key)) 102):=QaH r4_3 (QiZ hlong _ rfl)
  refine Qab (.agg (ints .u8 (keyB key))) 19 rfl kj (Qap 102 _ g4 102 _ _ r4_3_26 rfl kj kj (isz (n:=64) kj (izT (QbY key)))) <| sg 1 kj <| sgN hK25 <| wp_block ?_
  have n_4_5:g4≠g5:=(Qag r4_1 l5)
  have n_5_4:g5≠g4:=(QaJ r4_1 l5)
  have r5_3:=(zbq p3 r5_2 n_5_4)
  refine QaF (fun (s2:Nat)=>[(2,.pointer (some ⟨g4,0,none⟩)),(3,.pointer (some ⟨g5,0,none⟩)),(19,.agg (ints .u8 (keyB key))),(20,.int .i64 ((s2:Nat):Int))]) (fun (s2:Nat) W=>(s2≤64)∧(W.heap[g4]? = some (.cells (ints .u8 (puts (padX 54 key) (keyB key) s2)) 102))∧(W.heap[g5]? = some (.cells (ints .u8 (fill (padX 92 key) 64 s2)) 102))∧(Qaf [g4,g5] W3 W)∧(Ext w W)) (fun (s2:Nat)=>64-s2) 0 ⟨kj,kj,kj,kj,trivial⟩ ⟨(zav _),(QaH r4_3_26 (Qgz _ _).symm),(QaH r5_3 (Qdx _ 64).symm),(zb1 [g4,g5] W3),x3⟩ fun s2 X2 V2 hI2=>?_
  obtain ⟨i,hs2⟩:∃ z,z=s2:=⟨_,rfl⟩
  subst hs2
  obtain ⟨hi,q4_2,q5_2,kk2,xx2⟩:=hI2
  replace hi:i≤64:=hi
  replace q4_2:V2.heap[g4]? = some (.cells (ints .u8 (puts (padX 54 key) (keyB key) i)) 102):=q4_2
  replace q5_2:V2.heap[g5]? = some (.cells (ints .u8 (fill (padX 92 key) 64 i)) 102):=q5_2
  replace kk2:Qaf [g4,g5] W3 V2:=kk2
  replace xx2:Ext w V2:=xx2
  have q4:=kk2
  refine sgB kj <| wp_seq_k fun K28 hK28=>Qa2 (t:=decide (((i:Nat):Int)<64)) kj (fun c29=>?_) (fun c29=>?_)
  ·skip
   have hlt21:i<64:=by have:=of_decide_eq_true c29; omega
   refine wp_skip <| hK28 _ _ <| wp_seq_k fun K30 hK30=>wp_block <| sgC fun K31 hK31=>sg 1 kj <| Qab (.int .u8 (nth (keyB key) i)) 23 rfl kj (QaB 102 _ _ .i64 .u8 (keyB key) i 64 5 (nth (keyB key) i) rfl kj kj kj kj kj (QbY key) (by omega) rfl) <| sg 2 kj <| sgN hK31 <| Qae ?_
   refine sg 3 kj <| Qab (.int .u8 (nth (padX 54 key) i)) 27 rfl kj (Qah (u:=.int .u8 (bits .xor .u8 ((nth (keyB key) i)) (54))) kj (congrArg (zam .u8) (QeH 54 key hlt21).symm)) <| sg 1 kj <| Qab (.int .u8 (nth (padX 92 key) i)) 29 rfl kj (Qah (u:=.int .u8 (bits .xor .u8 ((nth (keyB key) i)) (92))) kj (congrArg (zam .u8) (QeH 92 key hlt21).symm)) <| Qab (.pointer (some ⟨g4,i,none⟩)) 30 rfl kj (QaC _ _ _ .i64 (i) _ 64 5 rfl kj kj kj kj (by omega)) <| Qan g4 _ (ints .u8 ((puts (padX 54 key) (keyB key) i).set i (nth (padX 54 key) i))) 102 q4_2 rfl kj (Qa1 5 _ _ g4 i 102 _ _ q4_2 rfl kj kj kj (zal (by omega) (QhK (QaK 54 key) (QbY key) (by omega)).symm)) fun W5 p5 r4_5=>?_
   have x5:=zbr p5 xx2 b4
   refine Qab (.pointer (some ⟨g5,i,none⟩)) 31 rfl kj (QaC _ _ _ .i64 (i) _ 64 5 rfl kj kj kj kj (by omega)) ?_
   have r5_5:=(zbq p5 q5_2 n_5_4)
   refine Qan g5 _ (ints .u8 ((fill (padX 92 key) 64 i).set i (nth (padX 92 key) i))) 102 r5_5 rfl kj (Qa1 5 _ _ g5 i 102 _ _ r5_5 rfl kj kj kj (zal (by omega) (Qb2 (QaK 92 key) (by omega)).symm)) fun W6 p6 r5_6=>?_
   have x6:=zbr p6 x5 b5
   refine Qal <| hK30 _ _ <| Qae <| Qab (.int .i64 ((i+1:Nat):Int)) 32 rfl kj (Qah (u:=.int .i64 (zaw.wrap (((i:Nat):Int)+1))) kj (congrArg (zam .i64) (i64n _ _ (by omega) (by omega)))) <| sg 1 kj <| Qal ?_
   have r4_6:=(zbq p6 r4_5 n_4_5)
   repeat (first | with_reducible refine goX1 ?_ | with_reducible refine goX2 ?_ | with_reducible refine goX3 ?_)
   exact Qa5 (i+1) ⟨kj,kj,kj,kj,trivial⟩ ⟨(by omega),(QaH r4_6 (QhJ (QaK 54 key) (QbY key) hlt21)),(QaH r5_6 (Qc3 (QaK 92 key) hlt21)),(zb4 (zb4 q4 p5 (.inl (by simp))) p6 (.inl (by simp))),x6⟩ (by omega)
  ·skip
   have heq21:i=64:=by have:=of_decide_eq_false c29; omega
   have r4_4_32:V2.heap[g4]? = some (.cells (ints .u8 (padX 54 key)) 102):=QaH q4_2 (by rw [heq21]; exact Qg0 (QaK 54 key) (QbY key))
   have r5_4_33:V2.heap[g5]? = some (.cells (ints .u8 (padX 92 key)) 102):=QaH q5_2 (by rw [heq21]; exact QcW (QaK 92 key))
   refine wp_exit <| hK24 _ _ <| wp_seq_k fun K34 hK34=>QbS (fun W=>W.heap[g5]? = some (.cells (ints .u8 (padX 92 key)) 102)) [⟨none,[(2,none)]⟩,⟨none,[(3,none)]⟩,⟨none,[(2,none),(33,some 0)]⟩,⟨none,[(3,none),(34,some 1)]⟩] [] [1] kj kj kj (fun W hR=>Qaa r5_4_33 hR) fun F hF=>QbM (.agg (ints .u8 (padX 54 key))) kj kj kj rfl (fun W hR=>(Qap 102 _ g4 102 _ _ (Qaa (Qaa r4_4_32 (Qaj _)) hR) rfl kj kj (isz (n:=64) kj (izT (QaK 54 key))))) <| QeW (.agg (ints .u8 (padX 92 key))) kj kj kj rfl (fun W hW=>(Qap 102 _ g5 102 _ _ hW rfl kj kj (isz (n:=64) kj (izT (QaK 92 key))))) <| Qcj rfl <| Qcj rfl <| Qgn (hF _ kj fun W5 e5=>?_)
   simp only [zan,zao,fins,up]
   clear hF
   have x5:=zbs xx2 e5
   have r4_5:=(Qaa r4_4_32 e5)
   have r5_5:=(Qaa r5_4_33 e5)
   refine Qcc _ g4 _ (ints .u8 (padX 54 key)) 102 r4_5 rfl (Qao 102 _ _ g4 102 _ _ r4_5 rfl kj kj (isz (n:=64) kj (izT (QaK 54 key))) (eqsz (n:=64) (izT (QaK 54 key)) (izT (QaK 54 key))) (Qay _ _)) (fun W hp=>zbq hp r5_5 n_5_4) fun W6 p6 r4_6=>?_
   have x6:=zbr p6 x5 b4
   have r5_6:=(zbq p6 r5_5 n_5_4)
   refine Qgj _ g5 _ (ints .u8 (padX 92 key)) 102 r5_6 rfl (Qao 102 _ _ g5 102 _ _ r5_6 rfl kj kj (isz (n:=64) kj (izT (QaK 92 key))) (eqsz (n:=64) (izT (QaK 92 key)) (izT (QaK 92 key))) (Qay _ _)) (fun W hp hrw=>hrw) fun W7 p7 r5_7=>?_
   have x7:=zbr p7 x6 b5
   refine Qew <| hK34 _ _ <| wp_ret ?_
   repeat (first | with_reducible refine goR1 ?_ | with_reducible refine goR2 ?_)
   have r4_7:=(zbq p7 r4_6 n_4_5)
   exact (show bodyPost _ _ _ .ret _ _ from ret2 (.agg (ints .u8 (padX 54 key))) (.agg (ints .u8 (padX 92 key))) rfl (QaP g4 102 _ r4_7 kj kj (isz (n:=64) kj (izT (QaK 54 key)))) (QaP g5 102 _ r5_7 kj kj (isz (n:=64) kj (izT (QaK 92 key)))) ⟨rfl,x7⟩)
end Sha
end
section
namespace Sha
open Go Go.RowKit
open Rely Auto Own
theorem tagC (key : List Int) (v:Value) (B:Nat) (gp n:Nat) (Tp:TypeId) (ps:List (Value×List Int)) (hn:ps.length=n) (hn9:n≤1000000) (tc tq:TypeId) (w:World) (hc:w.heap[4]? = some (.cells (ints .u64 QaR) tc)) (hq:w.heap[3]? = some (.cells (ints .u64 Qa9) tq)) (hkb:Qai key) (hkl:key.length≤800000000) (hk:RdK .u8 B key v w) (hrow:w.heap[gp]? = some (.cells (ps.map Prod.fst).toArray Tp)) (hps:∀ p∈ps,RdK .u8 w.heap.size p.2 p.1 w∧Qai p.2) (hlen:((ps.map Prod.snd).flatten).length≤800000000) :
  Calls Tryd.prog 86 #[v,.slice (some ⟨gp,0,none⟩) n n] w (Ret w (.agg (ints .u8 (hmac key ((ps.map Prod.snd).flatten))))):=by
 obtain ⟨a_key,c_key,rfl,-⟩:=id hk
 refine enter 36 [(0,.slice a_key key.length c_key),(1,.slice (some ⟨gp,0,none⟩) n n)] Tryd.func86 rfl rfl kj rfl <| sgC fun K4 hK4=>Qar (ints .u8 (zat 32 0)) 29 4 rfl kj kj fun g5 W1 l5 e1 r5_1=>?_
 have x1:=zbs (zbo w) e1
 refine sgN hK4 <| sgC fun K6 hK6=>sg 1 kj ?_
 have r1_1:=(Qaa hc e1)
 have r2_1:=(Qaa hq e1)
 refine Qau (.tuple #[.agg (ints .u8 (padX 54 key)),.agg (ints .u8 (padX 92 key))]) 89 #[.slice a_key key.length c_key] 13 rfl kj kj (QoD key _ B tc tq _ r1_1 r2_1 hkb (by omega) (zby hk x1)) fun W2 e2=>?_
 have x2:=zbs x1 e2
 refine sg 3 kj <| Qar (ints .u8 (zat 64 0)) 102 5 rfl kj kj fun g7 W3 l7 e3 r7_3=>?_
 have x3:=zbs x2 e3
 refine Qar (ints .u8 (zat 64 0)) 102 6 rfl kj kj fun g8 W4 l8 e4 r8_4=>?_
 have r7_4:=(Qaa r7_3 e4)
 refine Qan g7 _ (ints .u8 (padX 54 key)) 102 r7_4 rfl kj (Qao 102 _ _ g7 102 _ _ r7_4 rfl kj kj (isz (n:=64) kj (izT (QaK 54 key))) (eqsz (n:=64) (izT (qZ (n:=64))) (izT (QaK 54 key))) (Qay _ _)) fun W5 p5 r7_5=>?_
 have r8_5:=(zbq p5 r8_4 (QaJ r7_3 l8))
 refine Qan g8 _ (ints .u8 (padX 92 key)) 102 r8_5 rfl kj (Qao 102 _ _ g8 102 _ _ r8_5 rfl kj kj (isz (n:=64) kj (izT (QaK 92 key))) (eqsz (n:=64) (izT (qZ (n:=64))) (izT (QaK 92 key))) (Qay _ _)) fun W6 p6 r8_6=>?_
 have x6:=zbr p6 (zbr p5 (zbs x3 e4) (qT x2.size l7)) (qT x3.size l8)
 refine sgN hK6 <| sgC fun K9 hK9=>?_
 have r2_2:=(Qaa r2_1 e2)
 have r2_3:=(Qaa r2_2 e3)
 have r2_6:=(zbq p6 (zbq p5 (Qaa r2_3 e4) (Qag r2_2 l7)) (Qag r2_3 l8))
 refine Qav (fun v W'=>(fun v W=>∃ g,v=.pointer (some ⟨g,0,none⟩)∧W6.heap.size≤g∧HasD g [] W) v W'∧Ext W6 W') 90 #[] 16 rfl kj kj ((newC tq _ r2_6).mono (by rintro e w' ⟨v,rfl,e1,hv⟩; exact ⟨v,rfl,hv,e1⟩)) fun vv10 W7 hh10=>?_
 obtain ⟨hv10,e7⟩:=hh10
 obtain ⟨gd11,rfl,ld11,hD11⟩:=hv10
 have b11:=qT x6.size ld11
 refine sg 1 kj <| sgN hK9 <| sgC fun K12 hK12=>sg 2 kj ?_
 have r1_2:=(Qaa r1_1 e2)
 have r1_3:=(Qaa r1_2 e3)
 have r1_6:=(zbq p6 (zbq p5 (Qaa r1_3 e4) (Qag r1_2 l7)) (Qag r1_3 l8))
 have r1_7:=(Qaa r1_6 e7)
 have r7_6:=(zbq p6 r7_5 (Qag r7_3 l8))
 have r7_7:=(Qaa r7_6 e7)
 refine Qav (fun v W'=>v=.tuple #[]∧ExtB gd11 W7 W'∧HasD gd11 (padX 54 key) W') 91 #[.pointer (some ⟨gd11,0,none⟩),.slice (some ⟨g7,0,none⟩) 64 64] 19 rfl kj kj ((addC gd11 _ [] (padX 54 key) (.slice (some ⟨g7,0,none⟩) 64 64) tc _ r1_7 (zbg (qL (Qaq hc) b11)) (.inr (fun e=>(Qag r7_6 ld11) (Option.some.inj e))) (Qf3 _ _) (by rw [QaK]; decide) (hD11) (Qbp (xs:=padX 54 key) (n:=64) (QaK 54 key) r7_7 (Qaq r7_7) (show 64≤maxLen from by decide))).mono fun e w' h=>⟨_,h.1,rfl,h.2⟩) fun v W8 h=>?_
 obtain ⟨rfl,q8,hDp⟩:=h
 refine sgN hK12 <| wp_seq_k fun K13 hK13=>sgB kj <| wp_block <| QaF (fun (s1:Nat)=>[(20,.slice (some ⟨gp,0,none⟩) n n),(21,.int .i64 ((n:Nat):Int)),(22,.int .i64 ((s1:Nat):Int)),(7,.pointer (some ⟨gd11,0,none⟩)),(4,.pointer (some ⟨g5,0,none⟩)),(6,.pointer (some ⟨g8,0,none⟩))]) (fun (s1:Nat) W=>(s1≤n)∧(HasD gd11 (padX 54 key++flat ps s1) W)∧(Qaf [gd11] W8 W)∧(Ext w W)) (fun (s1:Nat)=>n-s1) 0 ⟨kj,kj,kj,kj,kj,kj,trivial⟩ ⟨(zav _),(show HasD _ (padX 54 key++flat ps 0) _ from (zbh (padX 54 key)).symm▸hDp),(zb1 [gd11] W8),(zbw (zbs x6 e7) q8 b11)⟩ fun s1 X1 V1 hI1=>?_
 obtain ⟨i,hs1⟩:∃ z,z=s1:=⟨_,rfl⟩
 subst hs1
 obtain ⟨hi,hDi,kk1,xx1⟩:=hI1
 replace hi:i≤n:=hi
 replace hDi:HasD gd11 (padX 54 key++flat ps i) V1:=hDi
 replace kk1:Qaf [gd11] W8 V1:=kk1
 replace xx1:Ext w V1:=xx1
 have q9:=kk1
 refine sgB kj <| wp_seq_k fun K16 hK16=>Qa2 (t:=decide (((i:Nat):Int)<((n:Nat):Int))) kj (fun c17=>?_) (fun c17=>?_)
 ·skip
  have hlt23:i<n:=by have:=of_decide_eq_true c17; omega
  refine wp_skip <| hK16 _ _ <| wp_seq_k fun K18 hK18=>wp_block <| sgC fun K19 hK19=>?_
  have hi2:i<ps.length:=by omega
  refine Qab (.pointer (some ⟨gp,i,none⟩)) 24 rfl kj (Qbf 123 _ _ .i64 i gp n n 33 rfl kj kj kj kj hlt23) ?_
  have r3_2:=(Qaa (Qaa hrow e1) e2)
  have r3_3:=(Qaa r3_2 e3)
  have r3_6:=(zbq p6 (zbq p5 (Qaa r3_3 e4) (Qag r3_2 l7)) (Qag r3_3 l8))
  refine Qab ((pat ps i).1) 25 rfl kj (Qbi 33 _ _ ((pat ps i).1) (Qdb (zb2 q9 (zbv q8 (Qaa r3_6 e7) (Qag r3_6 ld11)) (Qax (Qag r3_6 ld11) QaE)) (QlV hi2)) rfl kj kj) <| sg 1 kj <| sgN hK19 <| Qae <| sg 2 kj ?_
  have r1_8:=(zbv q8 r1_7 (Qag r1_6 ld11))
  have r1_9:=(zb2 q9 r1_8 (Qax (Qag r1_6 ld11) QaE))
  have hp6:=(hps _ (QfQ hi2)).1.ext xx1
  have hl6:=Qkp hi2
  refine Qav (fun v W'=>v=.tuple #[]∧ExtB gd11 V1 W'∧HasD gd11 ((padX 54 key++flat ps i)++(pat ps i).2) W') 91 #[.pointer (some ⟨gd11,0,none⟩),(pat ps i).1] 28 rfl kj kj ((addC gd11 _ _ _ _ tc _ r1_9 (zbg (qL (Qaq hc) b11)) (hp6.nb b11) (hps _ (QfQ hi2)).2 (by rw [zaB,QaK]; omega) hDi hp6).mono fun e w' h=>⟨_,h.1,rfl,h.2⟩) fun v W10 h=>?_
  obtain ⟨rfl,q10,hDn⟩:=h
  have x10:=zbw xx1 q10 b11
  refine Qal <| hK18 _ _ <| Qae <| Qab (.int .i64 ((i+1:Nat):Int)) 29 rfl kj (Qah (u:=.int .i64 (zaw.wrap (((i:Nat):Int)+1))) kj (congrArg (zam .i64) (i64n _ _ (by omega) (by omega)))) <| sg 1 kj <| Qal ?_
  repeat (first | with_reducible refine goX1 ?_ | with_reducible refine goX2 ?_ | with_reducible refine goX3 ?_)
  exact Qa5 (i+1) ⟨kj,kj,kj,kj,kj,kj,trivial⟩ ⟨(by omega),(by rw [Qfh hi2,←zaS]; exact hDn),(Qaf.but q9 q10 (.inl (by simp))),x10⟩ (by omega)
 ·skip
  have heq23:i=n:=by have:=of_decide_eq_false c17; omega
  refine wp_exit <| hK13 _ _ <| sgC fun K20 hK20=>sg 1 kj ?_
  have r1_8:=(zbv q8 r1_7 (Qag r1_6 ld11))
  have r1_9:=(zb2 q9 r1_8 (Qax (Qag r1_6 ld11) QaE))
  refine Qau (.agg (ints .u8 (dig (padX 54 key++flat ps i)))) 92 #[.pointer (some ⟨gd11,0,none⟩)] 31 rfl kj kj (sumC gd11 _ tc _ r1_9 (by rw [heq23,QdZ hn,zaB,QaK]; omega) hDi) fun W10 e10=>?_
  have x10:=zbs xx1 e10
  refine Qar (ints .u8 (zat 32 0)) 29 10 rfl kj kj fun g21 W11 l21 e11 r21_11=>Qan g21 _ (ints .u8 (dig (padX 54 key++flat ps i))) 29 r21_11 rfl kj (Qao 29 _ _ g21 29 _ _ r21_11 rfl kj kj (isz (n:=32) kj (izT (QbQ _))) (eqsz (n:=32) (izT (qZ (n:=32))) (izT (QbQ _))) (Qay _ _)) fun W12 p12 r21_12=>sgN hK20 <| wp_seq_k fun K22 hK22=>Qbg 2 [⟨none,[(6,none)]⟩,⟨none,[(10,none)]⟩] kj kj fun F hF=>Qa8 (Qas _) (.slice (some ⟨g8,0,none⟩) 64 64) kj kj (fun _=>kj) <| Qa8 (Qas _) (.slice (some ⟨g21,0,none⟩) 32 32) kj kj (fun _=>kj) <| QcO (hF _ fun W13 e13=>?_)
  simp only [zan,zao,zap,zaq,zar,zas,finE,up]
  clear hF
  have x13:=zbs (zbr p12 (zbs x10 e11) (qT x10.size l21)) e13
  refine QaU (#[.slice (some ⟨g8,0,none⟩) 64 64,.slice (some ⟨g21,0,none⟩) 32 32]) 33 2 34 rfl kj kj fun g23 W14 l23 e14 r23_14=>?_
  have b23:=qT x13.size l23
  have r8_10:=(Qaa (zb2 q9 (zbv q8 (Qaa r8_6 e7) (Qag r8_6 ld11)) (Qax (Qag r8_6 ld11) QaE)) e10)
  have r8_14:=(Qaa (Qaa (rpn p12 r8_10 e11 l21) e13) e14)
  have r21_14:=(Qaa (Qaa r21_12 e13) e14)
  have r1_10:=(Qaa r1_9 e10)
  have r2_10:=(Qaa (zb2 q9 (zbv q8 (Qaa r2_6 e7) (Qag r2_6 ld11)) (Qax (Qag r2_6 ld11) QaE)) e10)
  have hps24:∀ p∈([(.slice (some ⟨g8,0,none⟩) 64 64,padX 92 key),(.slice (some ⟨g21,0,none⟩) 32 32,dig (padX 54 key++flat ps i))]:List (Value×List Int)),RdK .u8 W14.heap.size p.2 p.1 W14∧Qai p.2:=by
   intro p hp
   simp only [zba,zbb,or_false] at hp
   rcases hp with rfl | rfl
   ·exact ⟨zb5 (Qbp (xs:=padX 92 key) (n:=64) (QaK 92 key) r8_14 (Qaq r8_14) (show 64≤maxLen from by decide)),(Qf3 _ _)⟩
   ·exact ⟨zb5 (Qbp (xs:=dig (padX 54 key++flat ps i)) (n:=32) (QbQ _) r21_14 (Qaq r21_14) (show 32≤maxLen from by decide)),(QgQ _)⟩
  have hsh24:=QlQ g23 2 _ ([(.slice (some ⟨g8,0,none⟩) 64 64,padX 92 key),(.slice (some ⟨g21,0,none⟩) 32 32,dig (padX 54 key++flat ps i))]:List (Value×List Int)) rfl (by decide) tc tq W14 (Qaa (Qaa (rpn p12 r1_10 e11 l21) e13) e14) (Qaa (Qaa (rpn p12 r2_10 e11 l21) e13) e14) r23_14 hps24 (by simp only [zaU,zaV,zbk,zbl,zbh,zaB,(QbQ _),(QaK 92 key)]; omega)
  rw [show ((List.map Prod.snd ([(.slice (some ⟨g8,0,none⟩) 64 64,padX 92 key),(.slice (some ⟨g21,0,none⟩) 32 32,dig (padX 54 key++flat ps i))]:List (Value×List Int))).flatten)=(padX 92 key)++(dig (padX 54 key++flat ps i)) by simp only [zaU,zaV,zbk,zbl,zbh]] at hsh24
  refine Qau (.agg (ints .u8 (dig ((padX 92 key)++(dig (padX 54 key++flat ps i)))))) 93 #[.slice (some ⟨g23,0,none⟩) 2 2] 35 rfl kj kj hsh24 fun W15 e15=>?_
  have r5_2:=(Qaa r5_1 e2)
  have r5_3:=(Qaa r5_2 e3)
  have r5_6:=(zbq p6 (zbq p5 (Qaa r5_3 e4) (Qag r5_2 l7)) (Qag r5_3 l8))
  have r5_10:=(Qaa (zb2 q9 (zbv q8 (Qaa r5_6 e7) (Qag r5_6 ld11)) (Qax (Qag r5_6 ld11) QaE)) e10)
  have r5_15:=(Qaa (Qaa (Qaa (rpn p12 r5_10 e11 l21) e13) e14) e15)
  refine Qan g5 _ (ints .u8 (dig ((padX 92 key)++(dig (padX 54 key++flat ps i))))) 29 r5_15 rfl kj (Qao 29 _ _ g5 29 _ _ r5_15 rfl kj kj (isz (n:=32) kj (izT (QbQ _))) (eqsz (n:=32) (izT (qZ (n:=32))) (izT (QbQ _))) (Qay _ _)) fun W16 p16 r5_16=>sgN hK22 <| wp_ret ?_
  repeat (first | with_reducible refine goR1 ?_ | with_reducible refine goR2 ?_)
  exact (show bodyPost _ _ _ .ret _ _ from ret1 (.agg (ints .u8 (dig ((padX 92 key)++(dig (padX 54 key++flat ps i)))))) rfl (QaP g5 29 _ r5_16 kj kj (isz (n:=32) kj (izT (QbQ _)))) ⟨by unfold hmac; rw [heq23,QdZ hn],(zbr p16 (zbs (zbs x13 e14) e15) (qT (zbo w).size l5))⟩)
end Sha
end
section
namespace Sha
open Go Go.RowKit
open Rely Auto Own
theorem bytes_app {a b:List Int} (ha:Qai a) (hb:Qai b):Qai (a++b):=fun x hx=>by
  rcases zaL.1 hx with h | h
  · exact ha x h
  · exact hb x h
section
variable {ds : List Deferred} {P : Program} {ops : Array Oper} {Q : Exit → Act → World → Prop} {rest : List Oper} {o : Oper} {N : Nat} {L : Env} {W : World}
end
end Sha
end
section
namespace Sha
open Go Go.RowKit
open Rely Auto Own
def tg (key info:List Int):Nat→List Int
  | 0=>[]
  | i+1=>hmac key ((tg key info i++info)++[((i+1:Nat):Int)])
def okm (key info:List Int):Nat→List Int
  | 0=>[]
  | k+1=>okm key info k++tg key info (k+1)
theorem Qox (key info:List Int) (i:Nat):(tg key info i).length≤32:=by
  cases i with
  | zero=>exact zav _
  | succ i=>exact qE (Qcv _ _)
theorem QhA (key info:List Int) (i:Nat):Qai (tg key info i):=by
  cases i with
  | zero=>intro x hx; cases hx
  | succ i=>exact Qjc _ _
theorem Qhq (key info:List Int) (k:Nat):(okm key info k).length=32*k:=by
  induction k with
  | zero=>rfl
  | succ k ih=>rw [okm,zaB,ih,tg,Qcv]; omega
theorem u8_n (k : Nat) (h:k+1≤255):zae.wrap ((k+1:Nat):Int)=((k+1:Nat):Int):=by rw [Qnj]; omega
end Sha
end
section
namespace Sha
open Go Go.RowKit
open Rely Auto Own
theorem Qi4 (m : Nat) (gs:List Nat) (g1 g2 B:Nat) (key info:List Int) (a_key a_info:Option Addr) (c_key c_info:Nat) (tc tq:TypeId) (w:World) (hkl:key.length≤800000000) (hil:info.length≤700000000) (hkb:Qai key) (hib:Qai info)
  (hBw:B≤w.heap.size) (hgs:∀ c∈gs,B≤c) (hgl:∀ c∈gs,c<w.heap.size) (hkw:RdK .u8 B key (.slice a_key key.length c_key) w) (hiw:RdK .u8 B info (.slice a_info info.length c_info) w)
  (hcw:w.heap[4]? = some (.cells (ints .u64 QaR) tc)) (hqw:w.heap[3]? = some (.cells (ints .u64 Qa9) tq)) (r1w:w.heap[g1]? = some (.cells #[.slice a_key key.length c_key] 33)) (r2w:w.heap[g2]? = some (.cells #[.slice a_info info.length c_info] 33)) (n1:g1∉gs) (n2:g2∉gs) (nc:4∉gs) (nq:3∉gs) :
  SeqStopsK Fence.wide m Tryd.prog 85 #[.pointer (some ⟨g1,0,none⟩),.pointer (some ⟨g2,0,none⟩)] (fun i:Nat=>#[Value.agg (ints .u8 (tg key info (i+1)))]) (QbK gs) (fun ys=>ys=zaz 255) (fun ys=>∃ k,ys=zaz k∧k≤255) 256 w:=fun l J Jx Wi hW hJ hJx hY h0=>by
 refine callsIn_wide.2 ?_
 have hwi:=hW.size
 have hBi:B≤Wi.heap.size:=qT hBw hwi
 have hk:=hkw.ext hW
 have hi:=hiw.ext hW
 have hc:=Qaa hcw hW
 have hq:=Qaa hqw hW
 refine enter 24 [(0,.func (.yield l) #[] #[]),(1,.pointer (some ⟨g1,0,none⟩)),(2,.pointer (some ⟨g2,0,none⟩))] Tryd.func85 rfl rfl kj rfl <| sgB kj <| sgB kj <| wp_block <| QaF (fun (s1:Nat×Value)=>[(0,.func (.yield l) #[] #[]),(1,.pointer (some ⟨g1,0,none⟩)),(2,.pointer (some ⟨g2,0,none⟩)),(4,s1.2),(5,.int .i64 ((s1.1+1:Nat):Int))]) (fun (s1:Nat×Value) W=>(s1.1≤255)∧(J (zaz s1.1) W)∧(W.heap[g1]? = some (.cells #[.slice a_key key.length c_key] 33))∧(W.heap[g2]? = some (.cells #[.slice a_info info.length c_info] 33))∧(W.heap[4]? = some (.cells (ints .u64 QaR) tc))∧(W.heap[3]? = some (.cells (ints .u64 Qa9) tq))∧(RdK .u8 B key (.slice a_key key.length c_key) W)∧(RdK .u8 B info (.slice a_info info.length c_info) W)∧(OwnN .u8 29 Wi.heap.size (tg key info s1.1) s1.2 W)∧(Grew Wi W)) (fun (s1:Nat×Value)=>255-s1.1) (0,(.slice none 0 0)) ⟨kj,kj,kj,kj,kj,trivial⟩ ⟨(by decide),(show J (zaz 0) _ from h0),(Qaa r1w hW),(Qaa r2w hW),hc,hq,hk,hi,(QeE _ _ _ _),(Grew.refl Wi)⟩ fun s1 X1 V1 hI1=>?_
 obtain ⟨k,v⟩:=s1
 obtain ⟨hkl_,hJ1,rr1,rr2,rrc,rrq,hk1,hi1,hv,xx1⟩:=hI1
 replace hkl_:k≤255:=hkl_
 replace hJ1:J (zaz k) V1:=hJ1
 replace rr1:V1.heap[g1]? = some (.cells #[.slice a_key key.length c_key] 33):=rr1
 replace rr2:V1.heap[g2]? = some (.cells #[.slice a_info info.length c_info] 33):=rr2
 replace rrc:V1.heap[4]? = some (.cells (ints .u64 QaR) tc):=rrc
 replace rrq:V1.heap[3]? = some (.cells (ints .u64 Qa9) tq):=rrq
 replace hk1:RdK .u8 B key (.slice a_key key.length c_key) V1:=hk1
 replace hi1:RdK .u8 B info (.slice a_info info.length c_info) V1:=hi1
 replace hv:OwnN .u8 29 Wi.heap.size (tg key info k) v V1:=hv
 replace xx1:Grew Wi V1:=xx1
 obtain ⟨a4,c4,rfl,-⟩:=id (zbz hv)
 refine wp_seq_k fun K7 hK7=>sgB kj <| Qa2 (t:=decide (((k+1:Nat):Int)≤255)) kj (fun c9=>?_) (fun c9=>?_)
 ·skip
  have hlt:k+1≤255:=by have:=of_decide_eq_true c9; omega
  have htl:=Qox key info k
  have hl1:[((k+1:Nat):Int)].length=1:=rfl
  refine wp_skip <| hK7 _ _ <| wp_seq_k fun K10 hK10=>wp_block <| sgC fun K11 hK11=>Qab (.slice a_key key.length c_key) 11 rfl kj (Qad 33 _ g1 0 33 _ (.slice a_key key.length c_key) _ rr1 rfl kj kj kj) <| sg 1 kj <| Qab (.slice a_info info.length c_info) 13 rfl kj (Qad 33 _ g2 0 33 _ (.slice a_info info.length c_info) _ rr2 rfl kj kj kj) <| sg 1 kj <| Qab (.int .u8 (((k+1:Nat):Int))) 15 rfl kj (Qah (u:=.int .u8 (zae.wrap ((k+1:Nat):Int))) kj (congrArg (zam .u8) (u8_n _ (by omega)))) ?_
  refine QaU (ints .u8 ([(((k+1:Nat):Int))])) 5 1 16 rfl kj kj fun g12 W2 l12 e2 r12_2=>?_
  have x2:=Grew.ext xx1 e2
  have b12:=qT xx1.size l12
  refine QaU (#[.slice a4 ((tg key info k).length) c4,.slice a_info info.length c_info,.slice (some ⟨g12,0,none⟩) 1 1]) 33 3 17 rfl kj kj fun g13 W3 l13 e3 r13_3=>?_
  have b13:=qT x2.size l13
  have f16_3:=((hk1.ext e2).ext e3)
  have f20_3:=((hi1.ext e2).ext e3)
  have r12_3:=(Qaa r12_2 e3)
  have r1_3:=(Qaa (Qaa rrc e2) e3)
  have r2_3:=(Qaa (Qaa rrq e2) e3)
  have hps14:∀ p∈([(.slice a4 ((tg key info k).length) c4,tg key info k),(.slice a_info info.length c_info,info),(.slice (some ⟨g12,0,none⟩) 1 1,[(((k+1:Nat):Int))])]:List (Value×List Int)),RdK .u8 W3.heap.size p.2 p.1 W3∧Qai p.2:=by
   intro p hp
   simp only [zba,zbb,or_false] at hp
   rcases hp with rfl | rfl | rfl
   ·exact ⟨zb5 (zbz ((hv.ext e2).ext e3)),(QhA _ _ _)⟩
   ·exact ⟨zb5 f20_3,hib⟩
   ·exact ⟨zb5 (Qbp (xs:=[(((k+1:Nat):Int))]) (n:=1) rfl r12_3 (Qaq r12_3) (show 1≤maxLen from by decide)),(fun x hx=>by rw [List.mem_singleton] at hx; subst hx; omega)⟩
  have htg14:=tagC (key) (.slice a_key key.length c_key) _ g13 3 _ ([(.slice a4 ((tg key info k).length) c4,tg key info k),(.slice a_info info.length c_info,info),(.slice (some ⟨g12,0,none⟩) 1 1,[(((k+1:Nat):Int))])]:List (Value×List Int)) rfl (by decide) tc tq W3 r1_3 r2_3 hkb (by omega) f16_3 r13_3 hps14 (by simp only [zaU,zaV,zbk,zbl,zbh,zaB]; omega)
  rw [show ((List.map Prod.snd ([(.slice a4 ((tg key info k).length) c4,tg key info k),(.slice a_info info.length c_info,info),(.slice (some ⟨g12,0,none⟩) 1 1,[(((k+1:Nat):Int))])]:List (Value×List Int))).flatten)=(tg key info k)++info++([(((k+1:Nat):Int))]) by simp only [zaU,zaV,zbk,zbl,zbh,zaS]] at htg14
  refine Qau (.agg (ints .u8 (hmac (key) ((tg key info k)++info++([(((k+1:Nat):Int))]))))) 86 #[.slice a_key key.length c_key,.slice (some ⟨g13,0,none⟩) 3 3] 18 rfl kj kj htg14 fun W4 e4=>?_
  have x4:=Grew.ext (Grew.ext x2 e3) e4
  refine Qar (ints .u8 (zat 32 0)) 29 6 rfl kj kj fun g21 W5 l21 e5 r21_5=>?_
  have b21:=qT x4.size l21
  refine Qan g21 _ (ints .u8 (hmac (key) ((tg key info k)++info++([(((k+1:Nat):Int))])))) 29 r21_5 rfl kj (Qao 29 _ _ g21 29 _ _ r21_5 rfl kj kj (isz (n:=32) kj (izT (Qcv _ _))) (eqsz (n:=32) (izT (qZ (n:=32))) (izT (Qcv _ _))) (Qay _ _)) fun W6 p6 r21_6=>?_
  have r21_6_22:W6.heap[g21]? = some (.cells (ints .u8 (tg key info (k+1))) 29):=QaH r21_6 rfl
  refine sgN hK11 <| wp_seq_k fun K23 hK23=>wp_seq_k fun K24 hK24=>(wpIn_wide (n:=m)).1 <| Qbx <| QbB (.func (.yield l) #[] #[]) 19 rfl (Qby _ _) rfl kj kj <| QbB (.agg (ints .u8 (tg key info (k+1)))) 20 rfl (Qby _ _) rfl kj (Qap 29 _ g21 29 _ _ r21_6_22 rfl kj kj (isz (n:=32) kj (izT (Qcv _ _)))) ?_
  have y1_4:=(zbp (zbp (zbp (zbo V1) e2) e3) e4)
  refine Qic (m:=m) (l:=l) (args:=#[.agg (ints .u8 (tg key info (k+1)))]) 21 rfl rfl kj kj (hY (zaz k) k W6 (QfE hJ hJ1 (zbr p6 (zbp y1_4 e5) (qT y1_4.size l21))) (by rw [zbm]; omega)) (fun W' hA=>?_) (fun W' hA=>?_)
  ·skip
   obtain ⟨W7,hW7⟩:∃ z,z=W':=⟨_,rfl⟩
   rw [←hW7] at hA ⊢
   obtain ⟨hj25,hk25⟩:=hA
   refine QbB (.bool false) 22 rfl (Qby _ _) rfl kj kj <| QcI <| hK24 _ _ <| cond_false kj <| wp_skip <| hK23 _ _ <| sgA kj <| hK10 _ _ <| Qae <| sg 1 kj ?_
   refine Qab (.int .i64 (((k+1)+1:Nat):Int)) 10 rfl kj (Qah (u:=.int .i64 (zaw.wrap (((k+1:Nat):Int)+1))) kj (congrArg (zam .i64) (i64n _ _ (by omega) (by omega)))) <| sg 1 kj <| Qal ?_
   have r3_4:=(Qaa (Qaa (Qaa rr1 e2) e3) e4)
   have r4_4:=(Qaa (Qaa (Qaa rr2 e2) e3) e4)
   have r1_4:=(Qaa r1_3 e4)
   have r2_4:=(Qaa r2_3 e4)
   have r21_7:=(QbK.row hk25 r21_6_22 (fun hm=>by have h1:=hgl _ hm; have h2:=b21; omega))
   repeat (first | with_reducible refine goX1 ?_ | with_reducible refine goX2 ?_ | with_reducible refine goX3 ?_)
   exact Qa5 ((k+1),.slice (some ⟨g21,0,none⟩) 32 32) ⟨kj,kj,kj,kj,kj,trivial⟩ ⟨(by omega),(by rw [zbn]; exact hj25),(QbK.row hk25 (rpn p6 r3_4 e5 l21) n1),(QbK.row hk25 (rpn p6 r4_4 e5 l21) n2),(QbK.row hk25 (rpn p6 r1_4 e5 l21) nc),(QbK.row hk25 (rpn p6 r2_4 e5 l21) nq),(RdK.keepC (((f16_3.ext e4).ext e5).puts p6 (qT hBi b21)) hk25 hgs),(RdK.keepC (((f20_3.ext e4).ext e5).puts p6 (qT hBi b21)) hk25 hgs),(Qcu (xs:=tg key info (k+1)) (Qcv _ _) b21 r21_7 (by decide)),(Grew.keepC (Grew.puts (Grew.ext x4 e5) p6) hk25)⟩ (by show 255-(k+1)<255-k; omega)
  ·skip
   obtain ⟨W7,hW7⟩:∃ z,z=W':=⟨_,rfl⟩
   rw [←hW7] at hA ⊢
   refine QbB (.bool true) 22 rfl (Qby _ _) rfl kj kj <| QcI <| hK24 _ _ <| cond_true kj <| wp_ret ?_
   repeat (first | with_reducible refine goR1 ?_ | with_reducible refine goR2 ?_)
   exact (show bodyPost _ _ _ .ret _ _ from ret0 rfl ⟨⟨_,rfl⟩,.inr ⟨_,⟨k+1,zbn.symm,hlt⟩,hA⟩⟩)
 ·skip
  have hke:k=255:=by have:=of_decide_eq_false c9; omega
  refine wp_exit ?_
  repeat (first | with_reducible refine goX1 ?_ | with_reducible refine goX2 ?_ | with_reducible refine goX3 ?_)
  exact (show bodyPost _ _ _ .normal _ _ from end0 rfl ⟨⟨_,rfl⟩,.inl ⟨_,congrArg zaz hke,hJ1⟩⟩)
end Sha
end
section
namespace Sha
open Go Go.RowKit
open Rely Auto Own
theorem Qj3 {P : Program} {ρ:Operand→Value} {o:Oper} {W:World} {k:IntKind} {e:TypeId} (x y:Operand) (tx ty:TypeId) (ho:o.op=.call { callee:=.builtin .copy,args:=#[x,y],argTypes:=#[tx,ty] }) (hu:P.underlying tx=some (.slice e)) (hsz:(P.info? e).map (·.size)=some 1)
    {g off dl dc n B:Nat} {xs z:List Int} {v:Value} {T:TypeId} (hx:ρ x=.slice (some ⟨g,off,none⟩) dl dc) (hy:ρ y=v) (hr:RdK k B z v W)
    (hg:W.heap[g]? = some (.cells (ints k xs) T)) (hq:off+dl≤xs.length) (hn:n=min z.length dl) :
    ∃ W':World,(execOp ρ o).run P W=.ok (.value (.int .i64 ((n:Nat):Int))) W'∧Puts W g W'∧W'.heap[g]? = some (.cells (ints k (xs.take off++z.take n++xs.drop (off+n))) T):=by
  obtain ⟨a,cap,rfl,y2,y3,y4,y5⟩:=hr
  have hgo:∀ W',(Builtin.copy_ #[tx,ty] o.type #[.slice (some ⟨g,off,none⟩) dl dc,.slice a z.length cap]).run P W=.ok (goInt n) W'→(execOp ρ o).run P W=.ok (.value (.int .i64 ((n:Nat):Int))) W':=fun W' h=>by
    unfold execOp
    simp only [ho,resolve,invoke,builtin,za7,za9,za8,zaT,zaU,zaV,hx,hy,h,goInt]
  rcases zbi n with h0 | h0
  · refine ⟨W,hgo W ?_,⟨rfl,rfl,rfl,rfl,fun _ _=>rfl⟩,?_⟩
    · rw [h0]; exact run_copy_none W tx ty o.type e _ _ _ _ _ _ hu hsz (hn.symm.trans h0)
    · rw [h0,zaq,zbh,zaG,zbf]; exact hg
  · obtain ⟨gz,oz,rfl,z2,z3,z4⟩:=y5.resolve_left (fun e=>by rw [e] at hn; simp at hn; omega)
    have hlen:((z.take n).map (zam k)).length=n:=by simp; omega
    have h:=run_copy_row (P:=P) W tx ty o.type e g off dl dc ⟨gz,oz,none⟩ z.length cap (ints k xs) T ((z.take n).map (zam k)) hu hsz hg (by rw [hlen]; exact hn)
      (QiR (k:=k) (ys:=z.take n) fun i hi=>by
        rw [zah] at hi
        rw [z4 i (by omega)]
        simp [nth,show i<n by omega]) (by rw [hlen,Qat]; omega) (QiN k _)
    rw [hlen] at h
    have e1:((ints k xs).toList.take off++(z.take n).map (zam k)++(ints k xs).toList.drop (off+n)).toArray=ints k (xs.take off++z.take n++xs.drop (off+n)):=by
      apply zaO
      show (xs.map (zam k)).take off++(z.take n).map (zam k)++(xs.map (zam k)).drop (off+n)=(xs.take off++z.take n++xs.drop (off+n)).map (zam k)
      simp only [zaP,zaQ,zaR]
    rw [e1] at h
    exact ⟨_,hgo _ h,QaV _ _ _,setRow_heap _ _ _ _ _ _ hg⟩
theorem Qgw {P : Program} {ρ:Operand→Value} {o:Oper} {W:World} {k:IntKind} {e:TypeId} (x y:Operand) (tx ty:TypeId) (ho:o.op=.call { callee:=.builtin .copy,args:=#[x,y],argTypes:=#[tx,ty] }) (hu:P.underlying tx=some (.slice e)) (hsz:(P.info? e).map (·.size)=some 1)
    {g off dl dc n B:Nat} {xs ys z:List Int} {v:Value} {T:TypeId} (hx:ρ x=.slice (some ⟨g,off,none⟩) dl dc) (hy:ρ y=v) (hr:RdK k B z v W)
    (hg:W.heap[g]? = some (.cells (ints k xs) T)) (hq:off+dl≤xs.length) (hn:n=min z.length dl) (hY:xs.take off++z.take n++xs.drop (off+n)=ys) :
    ∃ W':World,(execOp ρ o).run P W=.ok (.value (.int .i64 ((n:Nat):Int))) W'∧Puts W g W'∧W'.heap[g]? = some (.cells (ints k ys) T):=hY▸Qj3 x y tx ty ho hu hsz hx hy hr hg hq hn
theorem QhM {P : Program} {ρ:Operand→Value} {o:Oper} {W:World} {g:Nat} {X Y:Obj} {v:Value} (h:∃ W':World,(execOp ρ o).run P W=.ok (.value v) W'∧Puts W g W'∧W'.heap[g]? = some Y) :
    ∃ u W',(execOp ρ o).run P W=.ok (.value u) W'∧QcZ g X Y W W'∧(u=v∧W'.heap[g]? = some Y):=by
  obtain ⟨W',e1,p1,r1⟩:=h
  exact ⟨_,W',e1,⟨ExtB.puts (zbt _ _) p1,.inr r1⟩,rfl,r1⟩
theorem QiD {P : Program} {ρ:Operand→Value} {o:Oper} {w:World} (t:TypeId) (x z:Operand) (l g len cap:Nat) (e:TypeId) (ho:o.op=.slice t x (some z) none none) (hx:ρ x=.slice (some ⟨g,0,none⟩) len cap)
    (hu:P.underlying t=some (.slice e)) (hs:(P.info? e).map (·.size)=some 1) (kz:IntKind) (hz:ρ z=.int kz (l:Int)) (h1:l≤len) (h2:len≤cap) :
    (execOp ρ o).run P w=.ok (.value (.slice (some ⟨g,(if cap=l then 0 else l),none⟩) (len-l) (cap-l))) w:=by
  cases hq:P.info? e with
  | none=>simp [hq] at hs
  | some i =>
    have hs':i.size=1:=by simpa [hq] using hs
    unfold execOp
    simp [ho,hx,hz,Instr.sliceAt,Instr.slice,Instr.sliceBounds,run_sliceBound,run_underlying hu,sizeOf,typeInfo,hq,hs',h1,h2]
    split
    · simp [Addr.add]
    · simp [Addr.add]
      exact fun h=>h.symm
theorem goXo {K : Act→World→Prop} {Q:Exit→Act→World→Prop} {a:Act} {w:World} {n m:Nat} (h:n≠m) (k:Q (.exit n) a w):Exit.inBlock m Q (.exit n) a w:=by
  unfold Exit.inBlock
  simp [h]
  exact k
theorem QgH {W W':World} {g:Nat} {cs:Array Value} {t:TypeId} (h:ExtB g W W') (r:W.heap[g]? = some (.cells cs t)):KeepsOthers W W' :=
  ⟨h.2.2.2.1,fun k o hk ho=>by
    by_cases e:k=g
    · subst e
      rw [r] at hk
      cases hk
      cases ho
    · exact (h.2.2.2.2 k (Qaq hk) e).trans hk⟩
theorem Qke {gs : List Nat} {A B:World} {g:Nat} (h:ExtB g A B) (hm:g∈gs):QbK gs A B:=⟨h.2.2.2.1,fun k cs t fr q n=>(h.2.2.2.2 k (Qaq q) (fun e=>n (e▸hm))).trans q⟩
theorem Qja {gs : List Nat} {A B:World} {g:Nat} (h:Puts A g B) (hm:g∈gs):QbK gs A B:=⟨qE h.2.2.2.1.symm,fun k cs t fr q n=>(h.2.2.2.2 k (fun e=>n (e▸hm))).trans q⟩
def okL (key info:List Int) (pre:List Nat):List Int:=(pre.map fun x=>tg key info (x+1)).flatten
def FF (key info:List Int) (n:Nat) (pre:List Nat):List Int:=(okL key info pre).take n++zat (n-32*pre.length) 0
theorem Qhr (key info:List Int):∀ pre,(okL key info pre).length=32*pre.length
  | []=>rfl
  | x::l=>by
    have:=Qhr key info l
    unfold okL at this ⊢
    rw [zaU,zbk,zaB,this,tg,Qcv,List.length_cons]; omega
theorem QhP (key info:List Int) (pre:List Nat) (x:Nat):okL key info (pre++[x])=okL key info pre++tg key info (x+1):=by simp [okL]
theorem Qg6 (key info:List Int):∀ k,okL key info (zaz k)=okm key info k
  | 0=>rfl
  | k+1=>by rw [zbn,QhP,Qg6 key info k,okm]
theorem QkF (key info:List Int) (n:Nat) (pre:List Nat):(FF key info n pre).length=n:=by
  unfold FF
  rw [zaB,zah,Qhr,qZ]; omega
theorem Qor (key info:List Int) (n:Nat):zat n 0=FF key info n []:=by simp [FF,okL]
theorem Qkx (key info:List Int) (n:Nat) (pre:List Nat) (x:Nat) (h:pre.length=0∨32*pre.length<n) :
    (FF key info n pre).take (if n=32*pre.length then 0 else 32*pre.length)++(tg key info (x+1)).take (min 32 (n-32*pre.length))++(FF key info n pre).drop ((if n=32*pre.length then 0 else 32*pre.length)+min 32 (n-32*pre.length))=FF key info n (pre++[x]):=by
  have hl:=Qhr key info pre
  have ht:(tg key info (x+1)).length=32:=Qcv _ _
  have hp:(pre++[x]).length=pre.length+1:=by simp
  by_cases hn:n=32*pre.length
  · have h0:n=0:=by omega
    subst h0
    rw [if_pos hn]
    unfold FF
    simp
  · have hlt:32*pre.length<n:=by omega
    rw [if_neg hn]
    unfold FF
    rw [QhP,hp,zab (by omega:(okL key info pre).length≤n),zaK (by omega),zab (by omega:(okL key info pre).length≤32*pre.length),
      List.drop_append,zaX (by omega:(okL key info pre).length≤32*pre.length+min 32 (n-32*pre.length)),zan,zbj,List.take_append,zab (by omega:(okL key info pre).length≤n),hl]
    congr 1
    · congr 1
      by_cases h32:n-32*pre.length≤32
      · rw [show min 32 (n-32*pre.length)=n-32*pre.length by omega]
      · rw [show min 32 (n-32*pre.length)=32 by omega,zab (by omega),zab (by omega)]
    · congr 1; omega
theorem Ql2 (key info:List Int) (n:Nat) (pre:List Nat) (x:Nat) (h:pre.length=0∨32*pre.length<n) :
    (FF key info n (pre++[x])).take (if n=32*pre.length then 0 else 32*pre.length)++(tg key info (x+1)).take (min 32 (n-32*pre.length))++(FF key info n (pre++[x])).drop ((if n=32*pre.length then 0 else 32*pre.length)+min 32 (n-32*pre.length))=FF key info n (pre++[x]):=by
  have ht:(tg key info (x+1)).length=32:=Qcv _ _
  rw [←Qkx key info n pre x h]
  refine Qle _ _ _ _ ?_ (by omega)
  rw [QkF]
  split <;> omega
theorem Qnq (key info:List Int) (n k:Nat) (h:n≤32*k):FF key info n (zaz k)=(okm key info k).take n:=by
  unfold FF
  rw [Qg6,zbm,show n-32*k=0 by omega,List.replicate_zero,zbh]
theorem Qee (key info:List Int) (x:Nat):(tg key info (x+1)).length=32:=Qcv _ _
theorem Qo1 (a_key a_info:Option Addr) (n1 n2 c1 c2:Nat) (w:World):Calls Tryd.prog 81 #[.slice a_key n1 c1,.slice a_info n2 c2] w (QbF w (fun v W=>∃ g1 g2,v=.func (.func 85) #[] #[.pointer (some ⟨g1,0,none⟩),.pointer (some ⟨g2,0,none⟩)]∧w.heap.size≤g1∧w.heap.size≤g2∧W.heap[g1]? = some (.cells #[.slice a_key n1 c1] 33)∧W.heap[g2]? = some (.cells #[.slice a_info n2 c2] 33))):=by
  refine enter 6 [(0,.slice a_key n1 c1),(1,.slice a_info n2 c2)] Tryd.func81 rfl rfl kj rfl <| sgC fun K1 hK1=>Qar (#[.slice a_key n1 c1]) 33 2 rfl kj kj fun g2 W1 l2 e1 r2_1=>?_
  have x1:=zbs (zbo w) e1
  refine Qar (#[.slice a_info n2 c2]) 33 3 rfl kj kj fun g3 W2 l3 e2 r3_2=>sg 1 kj <| sgN hK1 <| sgB kj <| wp_ret ?_
  repeat (first | with_reducible refine goR1 ?_ | with_reducible refine goR2 ?_)
  exact (show bodyPost _ _ _ .ret _ _ from ret1 (.func (.func 85) #[] #[.pointer (some ⟨g2,0,none⟩),.pointer (some ⟨g3,0,none⟩)]) rfl (Qaz kj) ⟨_,rfl,(zbs x1 e2),g2,g3,rfl,(qT (zbo w).size l2),(qT x1.size l3),(Qaa r2_1 e2),r3_2⟩)
theorem Qlm (key info:List Int) (n k:Nat) (h:n≤32*k):((okm key info k).take n).length=n:=by
  rw [zah,Qhq]; omega
theorem Qlw (key info:List Int) (v1 v2:Value) (B B2 n:Nat) (tc tq:TypeId) (w:World) (hc:w.heap[4]? = some (.cells (ints .u64 QaR) tc)) (hq:w.heap[3]? = some (.cells (ints .u64 Qa9) tq)) (hn:n≤8160) (hkl:key.length≤800000000) (hil:info.length≤700000000) (hkb:Qai key) (hib:Qai info) (hk:RdK .u8 B key v1 w) (hi:RdK .u8 B2 info v2 w) :
  Calls Tryd.prog 75 #[v1,v2,.int .i64 ((n:Nat):Int)] w (QbF w (fun v W=>∃ u k,v=.tuple #[u,.nilIface]∧n≤32*k∧OwnN .u8 5 w.heap.size ((okm key info k).take n) u W)):=by
 obtain ⟨a_key,c_key,rfl,-⟩:=id hk
 obtain ⟨a_info,c_info,rfl,-⟩:=id hi
 refine Qmj 35 [(0,.slice a_key key.length c_key),(1,.slice a_info info.length c_info),(2,.int .i64 ((n:Nat):Int))] Tryd.func75 rfl rfl kj rfl <| sgC fun K3 hK3=>Qar (#[.int .i64 ((n:Nat):Int)]) 3 5 rfl kj kj fun g4 W1 l4 e1 r4_1=>?_
 have x1:=zbs (zbo w) e1
 have b4:=qT (zbo w).size l4
 refine sg 2 kj <| sgN hK3 <| wp_scope_straight <| wp_seq_k fun K5 hK5=>sgC fun K6 hK6=>Qab (.int .i64 ((n:Nat):Int)) 11 rfl kj (Qad 3 _ g4 0 3 _ (.int .i64 ((n:Nat):Int)) _ r4_1 rfl kj kj kj) <| Qab (.bool false) 12 rfl kj (Qah (u:=.bool (decide (((n:Nat):Int)<0))) kj (congrArg zau (decide_eq_false (by omega)))) <| sg 1 kj <| Qab (.int .i64 ((n:Nat):Int)) 14 rfl kj (Qad 3 _ g4 0 3 _ (.int .i64 ((n:Nat):Int)) _ r4_1 rfl kj kj kj) <| Qab (.bool false) 15 rfl kj (Qah (u:=.bool (decide (((n:Nat):Int)>8160))) kj (congrArg zau (decide_eq_false (by omega)))) ?_
 refine sg 1 kj <| sgN hK6 <| cond_false kj <| wp_skip <| hK5 _ _ <| sgC fun K7 hK7=>Qab (.int .i64 ((n:Nat):Int)) 18 rfl kj (Qad 3 _ g4 0 3 _ (.int .i64 ((n:Nat):Int)) _ r4_1 rfl kj kj kj) <| QaU (ints .u8 (zat n 0)) 5 n 19 rfl kj (Qds 33 _ _ .i64 .i64 n 5 rfl kj kj kj (.inr kj) (by omega)) fun g8 W2 l8 e2 r8_2=>?_
 have x2:=zbs x1 e2
 have b8:=qT x1.size l8
 refine Qar (#[.slice none 0 0]) 33 8 rfl kj kj fun g9 W3 l9 e3 r9_3=>Qan g9 _ (#[.slice (some ⟨g8,0,none⟩) n n]) 33 r9_3 rfl kj (Qbd 33 _ _ g9 0 33 _ (.slice (some ⟨g8,0,none⟩) n n) r9_3 rfl kj kj kj kj kj rfl) fun W4 p4 r9_4=>?_
 have x4:=zbr p4 (zbs x2 e3) (qT x2.size l9)
 refine sgN hK7 <| sgC fun K10 hK10=>Qar (#[.int .i64 0]) 3 9 rfl kj kj fun g11 W5 l11 e5 r11_5=>?_
 have b11:=qT x4.size l11
 refine Qan g11 _ (#[.int .i64 0]) 3 r11_5 rfl kj (Qbd 3 _ _ g11 0 3 _ (.int .i64 0) r11_5 rfl kj kj kj kj kj rfl) fun W6 p6 r11_6=>sgN hK10 <| wp_seq_k fun K12 hK12=>wp_label <| hK12 _ _ <| wp_seq_k fun K13 hK13=>sgC fun K14 hK14=>sg 2 kj <| Qav (fun v W'=>(fun v W=>∃ g1 g2,v=.func (.func 85) #[] #[.pointer (some ⟨g1,0,none⟩),.pointer (some ⟨g2,0,none⟩)]∧W6.heap.size≤g1∧W6.heap.size≤g2∧W.heap[g1]? = some (.cells #[.slice a_key key.length c_key] 33)∧W.heap[g2]? = some (.cells #[.slice a_info info.length c_info] 33)) v W'∧Ext W6 W') 81 #[.slice a_key key.length c_key,.slice a_info info.length c_info] 22 rfl kj kj ((Qo1 a_key a_info _ _ c_key c_info _).mono (by rintro e w' ⟨v,rfl,e1,hv⟩; exact ⟨v,rfl,hv,e1⟩)) fun vv15 W7 hh15=>?_
 obtain ⟨hv15,e7⟩:=hh15
 have x7:=zbs (zbr p6 (zbs x4 e5) b11) e7
 obtain ⟨gp1,gp2,rfl,lp1,lp2,rp1,rp2⟩:=hv15
 refine sgN hK14 <| wp_block ?_
 have r4_2:=(Qaa r4_1 e2)
 have r4_4:=(rpn p4 r4_2 e3 l9)
 have r4_7:=(Qaa (rpn p6 r4_4 e5 l11) e7)
 have r9_7:=(Qaa (rpn p6 r9_4 e5 l11) e7)
 have r11_7:=(Qaa r11_6 e7)
 have r8_4:=(rpn p4 r8_2 e3 l9)
 have r8_6:=(rpn p6 r8_4 e5 l11)
 have r8_7:=(Qaa r8_6 e7)
 have r1_2:=(Qaa (Qaa hc e1) e2)
 have r1_4:=(rpn p4 r1_2 e3 l9)
 have r2_2:=(Qaa (Qaa hq e1) e2)
 have r2_4:=(rpn p4 r2_2 e3 l9)
 have nb58:g4≠g9:=(Qag r4_2 l9)
 have nb59:g4≠g11:=(Qag r4_4 l11)
 have nb5O:g4≠g8:=(Qag r4_1 l8)
 have nb85:g9≠g4:=(QaJ r4_2 l9)
 have nb89:g9≠g11:=(Qag r9_4 l11)
 have nb8O:g9≠g8:=(QaJ r8_2 l9)
 have nb95:g11≠g4:=(QaJ r4_4 l11)
 have nb98:g11≠g9:=(QaJ r9_4 l11)
 have nb9O:g11≠g8:=(QaJ r8_4 l11)
 have nbO5:g8≠g4:=(QaJ r4_1 l8)
 have nbO8:g8≠g9:=(Qag r8_2 l9)
 have nbO9:g8≠g11:=(Qag r8_4 l11)
 have hgs:∀ c∈([g11,g8]:List Nat),w.heap.size≤c:=(fun c hc=>by simp only [zba,zbb,or_false] at hc; rcases hc with rfl | rfl; exact b11; exact b8)
 have hgl:∀ c∈([g11,g8]:List Nat),c<W7.heap.size:=(fun c hc=>by simp only [zba,zbb,or_false] at hc; rcases hc with rfl | rfl; exact Qaq r11_7; exact Qaq r8_7)
 have hgp:∀ c∈([g11,g8]:List Nat),c<W6.heap.size:=(fun c hc=>by simp only [zba,zbb,or_false] at hc; rcases hc with rfl | rfl; exact Qaq r11_6; exact Qaq r8_6)
 have hkL:RdK .u8 w.heap.size key (.slice a_key key.length c_key) W7:=(zb5 hk).ext x7
 have hiL:RdK .u8 w.heap.size info (.slice a_info info.length c_info) W7:=(zb5 hi).ext x7
 refine Qhl (gf:=85) (lb:=#[.pointer (some ⟨gp1,0,none⟩),.pointer (some ⟨gp2,0,none⟩)]) (enc:=fun x:Nat=>.agg (ints .u8 (tg key info (x+1)))) kj (enters_of Tryd.func85 kj rfl) (Qi4 2 [g11,g8] gp1 gp2 w.heap.size key info a_key a_info c_key c_info tc tq W7 hkl hil hkb hib x7.size hgs hgl hkL hiL (Qaa (rpn p6 r1_4 e5 l11) e7) (Qaa (rpn p6 r2_4 e5 l11) e7) rp1 rp2 (fun hm=>by have:=hgp _ hm; omega) (fun hm=>by have:=hgp _ hm; omega) (fun hm=>by have h1:=hgs _ hm; have h2:=Qaq hc; omega) (fun hm=>by have h1:=hgs _ hm; have h2:=Qaq hq; omega)) (fun h k=>QbK.trans h k) QbK.book (Below.refl _ _)
   (fun pre W=>((W.heap[g4]? = some (.cells (#[.int .i64 ((n:Nat):Int)]) 3))∧(W.heap[g9]? = some (.cells (#[.slice (some ⟨g8,0,none⟩) n n]) 33))∧(W.heap[g11]? = some (.cells (#[.int .i64 ((32*pre.length:Nat):Int)]) 3))∧(W.heap[g8]? = some (.cells (ints .u8 (FF key info n pre)) 5))∧(pre.length=0∨32*pre.length<n)∧W7.heap.size≤W.heap.size)∧Ext w W)
   (fun c pre W=>(c=.exit 0∧n≤32*pre.length∧(W.heap[g4]? = some (.cells (#[.int .i64 ((n:Nat):Int)]) 3))∧(W.heap[g9]? = some (.cells (#[.slice (some ⟨g8,0,none⟩) n n]) 33))∧(W.heap[g8]? = some (.cells (ints .u8 (FF key info n pre)) 5)))∧Ext w W) (OwnFrom.and (Own.from (fun s A B row hs hg hr=>⟨QbD hs.1 hg hr,QbD hs.2.1 hg hr,QbD hs.2.2.1 hg hr,QbD hs.2.2.2.1 hg hr,hs.2.2.2.2.1,qT hs.2.2.2.2.2 hg.size⟩) _) (ownFrom_below (qR _) x7.size)) (fun c=>OwnFrom.and (Own.from (fun s A B row hs hg hr=>⟨hs.1,hs.2.1,QbD hs.2.2.1 hg hr,QbD hs.2.2.2.1 hg hr,QbD hs.2.2.2.2 hg hr⟩) _) (ownFrom_below (qR _) x7.size)) ⟨⟨r4_7,r9_7,r11_7,QaH r8_7 (Qor key info n),.inl rfl,qR _⟩,x7⟩ (fun e=>QbK.ext e) (fun pre A B h e=>⟨⟨Qaa h.1.1 e,Qaa h.1.2.1 e,Qaa h.1.2.2.1 e,Qaa h.1.2.2.2.1 e,h.1.2.2.2.2.1,qT h.1.2.2.2.2.2 e.size⟩,zbp h.2 e⟩) (fun pre W h=>h.1.2.2.2.2.2) (fun x g=>[(10,.pointer (some ⟨g,0,none⟩)),(23,.agg (ints .u8 (tg key info (x+1))))]) (fun x=>ints .u8 (tg key info (x+1))) 29 (fun l x W K hK=>?_) (fun l pre x g10 W hg10 hI r10 hp=>?_) (fun D ys W lD hS hI rD=>?_) (fun D c pre W lD hSp hIx rD=>?_)
 ·skip
  refine Qbx <| Qid (ints .u8 (zat 32 0)) 29 10 rfl (QaY l 1 _) rfl kj kj fun g301 W1 l301 e1 r301_1=>?_
  have x1:=zbs (zbo W) e1
  refine QeL g301 _ (ints .u8 (tg key info (x+1))) 29 r301_1 rfl (QaY l 1 _) rfl kj (Qao 29 _ _ g301 29 _ _ r301_1 rfl kj kj (isz (n:=32) kj (izT (Qee _ _ _))) (eqsz (n:=32) (izT (qZ (n:=32))) (izT (Qee _ _ _))) (Qay _ _)) fun W2 p2 r301_2=>?_
  have x2:=zbr p2 x1 (qT (zbo W).size l301)
  refine QcI ?_
  exact hK _ _ l301 (zbr p2 (zbp (zbo W) e1) l301) r301_2
 ·skip
  obtain ⟨⟨q5,q8,q9,qO,hpl,hsz⟩,xx⟩:=hI
  have n105:g10≠g4:=by have h1:=Qaq r4_7; omega
  have n108:g10≠g9:=by have h1:=Qaq r9_7; omega
  have n109:g10≠g11:=by have h1:=Qaq r11_7; omega
  have n10O:g10≠g8:=by have h1:=Qaq r8_7; omega
  have hl1:(pre++[x]).length=pre.length+1:=by simp
  have htl:=Qee key info x
  refine wpIn_block <| wpIn_seq_k fun K506 hK506=>QfB (QcZ g8 (Obj.cells (ints .u8 (FF key info n pre)) 5) (Obj.cells (ints .u8 (FF key info n (pre++[x]))) 5)) (QcZ.refl _ _ _) (fun h k=>QcZ.trans h k) 6 [⟨none,[(9,none)]⟩,⟨none,[(8,none)]⟩,⟨none,[(9,none)]⟩,⟨none,[(25,some 1),(26,some 2)]⟩,⟨none,[(10,none)]⟩,⟨none,[(27,some 3),(28,some 4)]⟩] (QaY l 1 _) rfl kj kj fun F hF=>Qjj (QcZ.refl _ _ _) (.int .i64 ((32*pre.length:Nat):Int)) kj kj (fun W hR=>(Qad 3 _ g11 0 3 _ (.int .i64 ((32*pre.length:Nat):Int)) _ (zbv hR.1 (Qaa q9 (Qaj _)) nb9O) rfl kj kj kj)) <| Qjj (QcZ.refl _ _ _) (.slice (some ⟨g8,0,none⟩) n n) kj kj (fun W hR=>(Qad 33 _ g9 0 33 _ (.slice (some ⟨g8,0,none⟩) n n) _ (zbv hR.1 (Qaa q8 (Qaj _)) nb8O) rfl kj kj kj)) <| Qjj (QcZ.refl _ _ _) (.int .i64 ((32*pre.length:Nat):Int)) kj kj (fun W hR=>(Qad 3 _ g11 0 3 _ (.int .i64 ((32*pre.length:Nat):Int)) _ (zbv hR.1 (Qaa q9 (Qaj _)) nb9O) rfl kj kj kj)) <| Qjj (QcZ.refl _ _ _) (.slice (some ⟨g8,(if n=32*pre.length then 0 else 32*pre.length),none⟩) (n-32*pre.length) (n-32*pre.length)) kj kj (fun W hR=>QiD 33 _ _ (32*pre.length) g8 n n 5 rfl kj kj kj .i64 kj (by omega) (qR _)) <| Qjj (QcZ.refl _ _ _) (.slice (some ⟨g10,0,none⟩) 32 32) kj kj (fun W hR=>by kernel_rfl) <| Qot (fun u W=>u=.int .i64 (((min 32 (n-32*pre.length)):Nat):Int)∧W.heap[g8]? = some (Obj.cells (ints .u8 (FF key info n (pre++[x]))) 5)) (QcZ.stable _ _ _ _) kj kj (fun W hR=>?_) ?_
  ·have hsrc:RdK .u8 W.heap.size (tg key info (x+1)) (.slice (some ⟨g10,0,none⟩) 32 32) W:=Qbp (Qee _ _ _) (zbv hR.1 (Qaa r10 (Qaj _)) n10O) (Qaq (zbv hR.1 (Qaa r10 (Qaj _)) n10O)) (by decide)
   have hoff:(if n=32*pre.length then 0 else 32*pre.length)+(n-32*pre.length)≤n:=by split <;> omega
   rcases hR.row (Qaa qO (Qaj _)) with hX | hY
   ·exact QhM (Qgw (k:=.u8) (e:=5) (.tmp 27) (.tmp 28) 33 33 (by rfl) kj kj (off:=(if n=32*pre.length then 0 else 32*pre.length)) (dl:=n-32*pre.length) (dc:=n-32*pre.length) (n:=(min 32 (n-32*pre.length))) (xs:=FF key info n pre) kj kj hsrc hX (by rw [QkF]; exact hoff) (by rw [Qee]) (Qkx key info n pre x hpl))
   ·exact QhM (Qgw (k:=.u8) (e:=5) (.tmp 27) (.tmp 28) 33 33 (by rfl) kj kj (off:=(if n=32*pre.length then 0 else 32*pre.length)) (dl:=n-32*pre.length) (dc:=n-32*pre.length) (n:=(min 32 (n-32*pre.length))) (xs:=FF key info n (pre++[x])) kj kj hsrc hY (by rw [QkF]; exact hoff) (by rw [Qee]) (Ql2 key info n pre x hpl))
  refine QcO (hF _ fun W1 hR=>?_)
  simp only [zan,zao,zap,zaq,zar,zas,finE,up]
  rintro v29 ⟨rfl,rO_1⟩
  clear hF
  have q1:=ExtB.trans (zbu (zbt _ _) (Qaj _)) hR.1
  have x1:=zbw xx q1 b8
  refine QbB (.int .i64 (((32*pre.length)+(min 32 (n-32*pre.length)):Nat):Int)) 30 rfl (QaY l 1 _) rfl kj (Qah (u:=.int .i64 (zaw.wrap (((32*pre.length:Nat):Int)+(((min 32 (n-32*pre.length)):Nat):Int)))) kj (congrArg (zam .i64) (i64n _ _ (by omega) (by omega)))) ?_
  have r503_1:=(zbv q1 q9 nb9O)
  refine QeL g11 _ (#[.int .i64 (((32*pre.length)+(min 32 (n-32*pre.length)):Nat):Int)]) 3 r503_1 rfl (QaY l 1 _) rfl kj (Qbd 3 _ _ g11 0 3 _ (.int .i64 (((32*pre.length)+(min 32 (n-32*pre.length)):Nat):Int)) r503_1 rfl kj kj kj kj kj rfl) fun W2 p2 r503_2=>?_
  have x2:=zbr p2 x1 b11
  refine QcI <| hK506 _ _ <| wpIn_seq_k fun K507 hK507=>Qbx <| QbB (.int .i64 (((32*pre.length)+(min 32 (n-32*pre.length)):Nat):Int)) 31 rfl (QaY l 1 _) rfl kj (Qad 3 _ g11 0 3 _ (.int .i64 (((32*pre.length)+(min 32 (n-32*pre.length)):Nat):Int)) _ r503_2 rfl kj kj kj) ?_
  have r501_2:=(zbq p2 (zbv q1 q5 nb5O) nb59)
  refine QbB (.int .i64 ((n:Nat):Int)) 32 rfl (QaY l 1 _) rfl kj (Qad 3 _ g4 0 3 _ (.int .i64 ((n:Nat):Int)) _ r501_2 rfl kj kj kj) <| QbB (.bool (((((32*pre.length)+(min 32 (n-32*pre.length)):Nat):Int)==((n:Nat):Int)))) 33 rfl (QaY l 1 _) rfl kj kj <| QcI <| hK507 _ _ <| Qdg (t:=((((32*pre.length)+(min 32 (n-32*pre.length)):Nat):Int)==((n:Nat):Int))) kj (fun c508=>?_) (fun c508=>?_)
  ·skip
   have hm:32*pre.length+min 32 (n-32*pre.length)=n∨32*pre.length+min 32 (n-32*pre.length)≠n:=by omega
   have hge:n≤32*(pre.length+1):=by have:=eq_of_beq c508; omega
   refine wpIn_exit ?_
   repeat (first | with_reducible refine goX1 ?_ | with_reducible refine goXo (by decide) ?_)
   have r502_1:=(zbv q1 q8 nb8O)
   have r502_2:=(zbq p2 r502_1 nb89)
   have r504_2:=(zbq p2 rO_1 nbO9)
   exact ⟨((QgH q1 qO).trans (Qf9 p2 r503_1)),⟨rfl,by rw [hl1]; exact hge,r501_2,r502_2,r504_2⟩,x2⟩
  ·skip
   have hm:32*pre.length+min 32 (n-32*pre.length)=n∨32*pre.length+min 32 (n-32*pre.length)≠n:=by omega
   have hlt:32*(pre.length+1)<n:=by
    have h:=c508
    apply Decidable.byContradiction
    intro hc2
    have e:((32*pre.length+min 32 (n-32*pre.length):Nat):Int)=((n:Nat):Int):=by omega
    rw [e,beq_self_eq_true] at h
    exact absurd h (by decide)
   refine wpIn_skip ?_
   repeat (first | with_reducible refine goX1 ?_ | with_reducible refine goX2 ?_ | with_reducible refine goX3 ?_)
   have r502_1:=(zbv q1 q8 nb8O)
   have r502_2:=(zbq p2 r502_1 nb89)
   have r504_2:=(zbq p2 rO_1 nbO9)
   exact ⟨((QgH q1 qO).trans (Qf9 p2 r503_1)),(QbK.trans (Qke q1 (by simp)) (Qja p2 (by simp))),⟨r501_2,r502_2,by rw [hl1,show 32*(pre.length+1)=32*pre.length+min 32 (n-32*pre.length) by omega]; exact r503_2,r504_2,.inr (by rw [hl1]; exact hlt),qT hsz (qT (qT (qR _) q1.2.2.2.1) (qE p2.2.2.2.1.symm))⟩,x2⟩
 ·exfalso
  obtain ⟨⟨-,-,-,-,hpl,-⟩,-⟩:=hI
  subst hS
  rw [zbm] at hpl
  omega
 ·obtain ⟨⟨rfl,hge,q5,q8,qO⟩,xx⟩:=hIx
  obtain ⟨kR,rfl,-⟩:=hSp
  rw [zbm] at hge
  rw [Qnq key info n kR hge] at qO
  have bD:w.heap.size≤D:=qT x7.size lD
  refine wp_exit <| hK13 _ _ <| sgC fun K17 hK17=>Qab (.slice (some ⟨g8,0,none⟩) n n) 34 rfl kj (Qad 33 _ g9 0 33 _ (.slice (some ⟨g8,0,none⟩) n n) _ q8 rfl kj kj kj) <| sg 2 kj <| sgN hK17 <| wp_ret ?_
  repeat (first | with_reducible refine goR1 ?_ | with_reducible refine goR2 ?_)
  exact (show bodyPostM _ _ _ _ _ .ret _ _ from Qmz (.slice (some ⟨g8,0,none⟩) n n) (.nilIface) rfl rD (Qaz kj) (Qaz kj) ⟨_,rfl,QfO xx bD rD _,_,kR,rfl,hge,Qcu (Qlm key info n kR hge) b8 (QfN qO rD _) (by simp only [maxLen]; omega)⟩)
end Sha
end
section
namespace Sha
open Go Go.RowKit
open Rely Auto Own
def kx (key info:List Int) (n:Nat):List Int:=(okm key info n).take n
theorem Qhp (key info:List Int) (n:Nat):∀ (k d:Nat),n≤32*k→(okm key info (k+d)).take n=(okm key info k).take n
  | k,0,_=>rfl
  | k,d+1,h=>by
    rw [show k+(d+1)=(k+d)+1 by omega,okm,zaK (by rw [Qhq]; omega),Qhp key info n k d h]
theorem QoO (key info:List Int) (n k:Nat) (h:n≤32*k):(okm key info k).take n=kx key info n:=by
  unfold kx
  rcases Nat.le_total k n with h1 | h1
  · obtain ⟨d,rfl⟩:∃ d,n=k+d:=⟨n-k,by omega⟩
    exact (Qhp key info _ k d h).symm
  · obtain ⟨d,rfl⟩:∃ d,k=n+d:=⟨k-n,by omega⟩
    exact Qhp key info _ n d (by omega)
theorem QcH (key info:List Int) (n:Nat):(kx key info n).length=n:=by unfold kx; rw [zah,Qhq]; omega
theorem Qg5 (key info:List Int):∀ k,Qai (okm key info k)
  | 0=>fun x hx=>by cases hx
  | k+1=>bytes_app (Qg5 key info k) (QhA key info (k+1))
theorem Qia (key info:List Int) (n:Nat):Qai (kx key info n):=fun x hx=>Qg5 key info n x (zaM hx)
theorem Qlv (key info:List Int) (v1 v2:Value) (B B2 n:Nat) (tc tq:TypeId) (w:World) (hc:w.heap[4]? = some (.cells (ints .u64 QaR) tc)) (hq:w.heap[3]? = some (.cells (ints .u64 Qa9) tq)) (hn:n≤8160) (hkl:key.length≤800000000) (hil:info.length≤700000000) (hkb:Qai key) (hib:Qai info) (hk:RdK .u8 B key v1 w) (hi:RdK .u8 B2 info v2 w) :
    Calls Tryd.prog 75 #[v1,v2,.int .i64 ((n:Nat):Int)] w (QbF w (fun v W=>∃ u,v=.tuple #[u,.nilIface]∧OwnN .u8 5 w.heap.size (kx key info n) u W)) :=
  (Qlw key info v1 v2 B B2 n tc tq w hc hq hn hkl hil hkb hib hk hi).mono fun e W' ⟨v,h1,h2,u,k,h3,h4,h5⟩=>⟨v,h1,h2,u,h3,QoO key info n k h4▸h5⟩
end Sha
end
end Go.Proofs.YtioglfpngaddfaaDoor
