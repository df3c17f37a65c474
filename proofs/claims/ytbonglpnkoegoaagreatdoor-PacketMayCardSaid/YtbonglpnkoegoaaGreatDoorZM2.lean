/- Texts of this claim, joined (M2). -/
import Derived.Test.YtbonglpnkoegoaaGreatDoorZM1
import Derived.Laws.Externs
import Derived.Shelf.Spec.BitsCarry
import Derived.Shelf.Bits.Mul64
import Derived.Laws.Bits64b
import Derived.Lib.AppendStr
import Derived.MapKept
import Derived.ChangeMaps4
import Derived.Maps.RangeRun

set_option linter.unusedVariables false
set_option linter.unusedSimpArgs false
set_option maxHeartbeats 4000000
open List renaming range → zaa, mem_map → zab, getD_eq_getElem?_getD → zac, getElem?_map → zad, getElem?_range → zae, length_take → zai, replicate → zaj, nil_append → zap, cons_append → zaq, take_succ_cons → zar, take_zero → zas, drop_succ_cons → zat, drop_zero → zau, take_length → zav, take_of_length_le → zaw, eq_of_mem_replicate → za5, length_append → za6, length_drop → za9, length_map → zaF, length_set → zaG, drop_append_of_le_length → zaI, take_append_of_le_length → zaJ, mem_append → zaK, mem_of_mem_take → zaL, mem_of_mem_drop → zaM, map_append → zaO, map_take → zaP, map_drop → zaQ, append_assoc → zaR, map_toArray → zaT, map_cons → zaU, map_nil → zaV, drop_drop → zaW, drop_of_length_le → zaX, replicate_succ → zaY, set_cons_zero → zaZ, set_append_right → zba, mem_cons → zbb, not_mem_nil → zbc, take_add_one → zbd, getElem?_eq_getElem → zbe, flatten_append → zbf, take_append_drop → zbg, append_nil → zbi, drop_replicate → zbk, flatten_cons → zbl, flatten_nil → zbm, map → zbn, mem_singleton → zbo, length_range → zbp, range_succ → zbq, length_cons → zbr, replicate_zero → zbs, map_map → zbt, length_nil → zbu, nodup_nil → zbv, find?_cons_of_neg → zbw, getElem?_cons_succ → zbx, nodup_append → zb0, nodup_cons → zb1, map_singleton → zb2, filter_cons → zb3, filter_sublist → zb4, mem_filter → zb5, filter_eq_self → zb6, mem_cons_of_mem → zb7, mem_map_of_mem → zb8, mem_cons_self → zb9, getElem?_eq_some_iff → zbA, filter_congr → zbE
open Go.IntKind renaming u8 → zaf, i64 → zal, u64 → zaA, u32 → zaE
open BitVec renaming ofInt → zag, toNat_ofInt → zah, eq_of_toNat_eq → zaC
open Nat renaming zero_le → zak, lt_of_lt_of_eq → zan, zero_add → za3, sub_le → za8, sub_self → zaB, add_zero → zaD, ne_of_lt → zbh, eq_zero_or_pos → zbj
open Go.Value renaming int → zam, bool → zax, slice → za7
open Int renaming tmod → zao, fdiv_eq_ediv_of_nonneg → zaH
open Go.Code renaming wp → zay, rounds → zaz
open Go.Sem renaming run_bind → za0, run_pure → za2
open Go.Result renaming andThen_ok → za1, andThen → zby
open Array renaming getElem?_eq_some_iff → za4, ext' → zaN, length_toList → zaS, toList_push → zbz, eraseIdxIfInBounds_eq → zbB, toList_eraseIdx → zbC, contains_toList → zbD, mem_filter → zbF, mem_toList_iff → zbG
namespace Go.Proofs.YtbonglpnkoegoaaGreatDoor
open Rely.Ext renaming refl → zbH, trans → zbI
open Auto.Puts renaming row → zbJ, ext → zbK
open Auto.Ext renaming tr → zbL
open Own.ExtB renaming ext → zbM, row → zbN, up → zbO
open Auto.OwnN renaming stable → zbP, rd → zbR
open Auto.RdK renaming ext → zbQ, here → zbW
open Auto.Qai renaming refl → zbS, row → zbT, step → zbU, puts → zbV
section
namespace Ae
open Go Go.RowKit
open Rely Auto Own Sha
open Sha Cha
def by8 (n : Int):List Int:=(zaa 8).map fun i=>n/p256 i%256
theorem Qdx (n : Int):(by8 n).length=8:=by simp [by8]
theorem Qhk (n : Int):Qak (by8 n):=fun x hx=>by
  unfold by8 at hx
  obtain ⟨i,-,rfl⟩:=zab.1 hx
  omega
theorem QnG (n : Int) (i:Nat) (h:i<8):nth (by8 n) i=n/p256 i%256:=by
  unfold by8 nth
  rw [zac,zad,zae h]
  rfl
theorem Qh9 (n : Int) (i:Nat) (h:i<8):zaf.wrap (n/p256 i)=nth (by8 n) i:=by
  have h3:∀ z:Int,zaf.wrap z=z%256:=fun _=>rfl
  rw [h3,QnG n i h]
theorem or8 (x y:Int):bits .or .u8 x y=(((zag 8 x)|||(zag 8 y)).toNat:Int):=by
  have h:bits .or .u8 x y=zaf.wrap (((zag 8 x)|||(zag 8 y)).toNat:Int):=rfl
  have h3:∀ z:Int,zaf.wrap z=z%256:=fun _=>rfl
  rw [h,h3]
  have:=((zag 8 x)|||(zag 8 y)).isLt
  omega
theorem Qov (x y:Int):0≤bits .or .u8 x y∧bits .or .u8 x y<256:=by
  rw [or8]
  have:=((zag 8 x)|||(zag 8 y)).isLt
  omega
theorem Qm7 (x y:Int):0≤bits .xor .u8 x y∧bits .xor .u8 x y<256:=by
  rw [QkO]
  have:=((zag 8 x)^^^(zag 8 y)).isLt
  omega
theorem Ql2 (x y:Int) (hx:0≤x∧x<256) (hy:0≤y∧y<256):bits .or .u8 x y=0↔x=0∧y=0:=by
  rw [or8,BitVec.toNat_or,zah,zah]
  have h:=@Nat.or_eq_zero_iff (x%((2^8:Nat):Int)).toNat (y%((2^8:Nat):Int)).toNat
  omega
theorem Qg0 (y : Int):bits .xor .u8 y y=0:=by rw [QkO,BitVec.xor_self]; rfl
theorem Qjs (x y:Int) (hx:0≤x∧x≤255) (hy:0≤y∧y≤255):bits .xor .u8 x y=0↔x=y:=by
  constructor
  · intro h
    have h1:=Qey x y hx.1 hx.2
    have h2:=Qey y y hy.1 hy.2
    rw [Qg0] at h2
    rw [h] at h1
    exact h1.symm.trans h2
  · intro h; subst h; exact Qg0 x
theorem QmE (xs ys:List Int) (i:Nat) (h1:i<xs.length) (h2:i<ys.length):xs.take (i+1)=ys.take (i+1)↔xs.take i=ys.take i∧nth xs i=nth ys i:=by
  rw [QeX xs i h1,QeX ys i h2]
  constructor
  · intro h
    have h3:=List.append_inj h (by rw [zai,zai]; omega)
    exact ⟨h3.1,by simpa using h3.2⟩
  · rintro ⟨a,b⟩; rw [a,b]
theorem QjA {xs ys:List Int} {i:Nat} {d:Int} (h1:i<xs.length) (h2:i<ys.length) (hx:Qak xs) (hy:Qak ys) (hd:0≤d∧d<256) (h:d=0↔xs.take i=ys.take i) :
    bits .or .u8 d (bits .xor .u8 (nth xs i) (nth ys i))=0↔xs.take (i+1)=ys.take (i+1):=by
  have bx:=Qbl hx i
  have by_:=Qbl hy i
  rw [Ql2 _ _ hd (Qm7 _ _),Qjs _ _ oo oo,QmE xs ys i h1 h2,h]
theorem QnI (d : Int) (p:Prop) [Decidable p] (h:d=0↔p):(d==0)=decide p:=by
  by_cases e:d=0
  · rw [decide_eq_true (h.1 e),e]; rfl
  · rw [decide_eq_false (fun hp=>e (h.2 hp))]; exact beq_eq_false_iff_ne.2 e
theorem Qkn (n : Nat) (w:World):Calls Tryz.prog 54 #[.int .i64 (n:Int)] w (Qby w (OwnN .u8 5 w.heap.size (by8 (n:Int)))):=by
 refine enter 21 [(0,.int .i64 (n:Int))] Tryz.func54 rfl rfl kj rfl <| sgB kj <| sgC fun K2 hK2=>QaA (ints .u8 (zaj 8 0)) 5 8 5 rfl kj (QdR 41 _ _ .i64 .i64 8 5 rfl kj kj kj (.inr kj) dd) fun g3 W1 l3 e1 r3_1=>?_
 have b3:=qT (zbH w).size l3
 refine sg 1 kj <| sgN hK2 <| wp_seq_k fun K4 hK4=>sgB kj <| wp_block <| Qa3 (fun (s1:Nat)=>[(0,.int .i64 (n:Int)),(2,.slice none 0 0),(3,.slice (some ⟨g3,0,none⟩) 8 8),(6,.slice (some ⟨g3,0,none⟩) 8 8),(7,.int .i64 8),(8,.int .i64 (s1:Int))]) (fun (s1:Nat) W=>(s1≤8)∧(W.heap[g3]? = some (.cells (ints .u8 (fillL (by8 (n:Int)) 8 s1)) 5))∧(Qai [g3] W1 W)∧(Ext w W)) (fun (s1:Nat)=>8-s1) 0 ⟨kj,kj,kj,kj,kj,kj,trivial⟩ ⟨(zak _),(Qa9 r3_1 (fillL_zero _ 8)),(zbS [g3] W1),(zbL (zbH w) e1)⟩ fun s1 X1 V1 hI1=>?_
 obtain ⟨i,hs1⟩:∃ z,z=s1:=⟨_,rfl⟩
 subst hs1
 obtain ⟨hi,q3_1,kk1,xx1⟩:=hI1
 replace hi:i≤8:=hi
 replace q3_1:V1.heap[g3]? = some (.cells (ints .u8 (fillL (by8 (n:Int)) 8 i)) 5):=q3_1
 replace kk1:Qai [g3] W1 V1:=kk1
 replace xx1:Ext w V1:=xx1
 have q2:=kk1
 refine sgB kj <| wp_seq_k fun K7 hK7=>Qay (t:=decide ((i:Int)<8)) kj (fun c8=>?_) (fun c8=>?_)
 ·skip
  have hlt9:i<8:=by have:=of_decide_eq_true c8; omega
  refine wp_skip <| hK7 _ _ <| wp_seq_k fun K9 hK9=>wp_block <| sgB kj <| Qaj <| sg 4 kj <| sv (.int .i64 ((8*i:Nat):Int)) 15 (Qac (u:=.int .i64 (zal.wrap (8*(i:Int)))) kj (congrArg (zam .i64) (i64n _ _ oo oo))) <| sv (.int .i64 ((n:Int)/p256 i)) 16 (QaO .shr _ _ _ _ .i64 .i64 _ _ _ rfl kj kj (Qcd _ _ _ _ _ _ oo (shr8 _ i _ rfl oo))) <| sv (.int .u8 (nth (by8 (n:Int)) i)) 17 (Qac (u:=.int .u8 (zaf.wrap ((n:Int)/p256 i))) kj (congrArg (zam .u8) (Qh9 _ i hlt9))) ?_
  refine sv (pp g3 i) 18 (Qbr 41 _ _ .i64 (i) g3 8 8 5 rfl kj kj kj kj oo) <| Qag g3 _ (ints .u8 ((fillL (by8 (n:Int)) 8 i).set i (nth (by8 (n:Int)) i))) 5 q3_1 rfl kj (Qa0 5 _ _ g3 i 5 _ _ q3_1 rfl kj kj kj (zan oo (fillL_len _ 8 _ (Qdx _) hi).symm)) fun W3 p3 r3_3=>Qas <| hK9 _ _ <| Qaj <| sv (.int .i64 ((i+1:Nat):Int)) 19 (Qac (u:=.int .i64 (zal.wrap ((i:Int)+1))) kj (congrArg (zam .i64) (i64n _ _ oo oo))) <| sg 1 kj <| Qas ?_
  with_reducible repeat first | refine goX1 ?_ | refine goX2 ?_ | refine goX3 ?_
  exact Qa1 (i+1) ⟨kj,kj,kj,kj,kj,kj,trivial⟩ ⟨(show i+1≤8 by omega),(Qa9 r3_3 (fillL_step _ 8 i (Qdx _) hlt9)),(zbV q2 p3 (.inl (by simp))),(zbK p3 xx1 b3)⟩ (by show 8-(i+1)<8-i; omega)
 ·skip
  have heq9:i=8:=by have:=of_decide_eq_false c8; omega
  subst heq9
  have r3_2_11:V1.heap[g3]? = some (.cells (ints .u8 (by8 (n:Int))) 5):=Qa9 q3_1 (fillL_full _ 8 (Qdx _))
  refine wp_exit <| hK4 _ _ <| sgB kj <| wp_ret ?_
  with_reducible repeat first | refine goR1 ?_ | refine goR2 ?_
  exact (show bodyPost _ _ _ .ret _ _ from ret1 (.slice (some ⟨g3,0,none⟩) 8 8) rfl (Qax kj) ⟨_,rfl,xx1,Qb3 (xs:=by8 (n:Int)) (Qdx _) b3 r3_2_11 dd⟩)
theorem QnQ (xs : List Int) (v:Value) (B:Nat) (w:World) (h:RdK .u8 B xs v w):Calls Tryz.prog 56 #[v] w (Qby w (OwnN .u8 5 w.heap.size (zaj ((16-xs.length%16)%16) 0))):=by
  obtain ⟨a_x,c_x,rfl,-⟩:=id h
  refine enter 9 [(0,.slice a_x xs.length c_x)] Tryz.func56 rfl rfl kj rfl <| sgB kj <| sgC fun K2 hK2=>sg 2 kj <| sv (.int .i64 ((xs.length%16:Nat):Int)) 5 (Qac (u:=.int .i64 (zao ((xs.length:Int)) (16))) kj (congrArg (zam .i64) (QbK _ 16))) <| sv (.int .i64 ((16-(xs.length%16):Nat):Int)) 6 (Qac (u:=.int .i64 (zal.wrap (16-((xs.length%16:Nat):Int)))) kj (congrArg (zam .i64) (i64n _ _ oo oo))) <| sv (.int .i64 (((16-(xs.length%16))%16:Nat):Int)) 7 (Qac (u:=.int .i64 (zao (((16-(xs.length%16):Nat):Int)) (16))) kj (congrArg (zam .i64) (QbK _ 16))) <| QaA (ints .u8 (zaj ((16-(xs.length%16))%16) 0)) 5 ((16-(xs.length%16))%16) 8 rfl kj (QdR 41 _ _ .i64 .i64 ((16-(xs.length%16))%16) 5 rfl kj kj kj (.inr kj) oo) fun g3 W1 l3 e1 r3_1=>sg 1 kj <| sgN hK2 ?_
  refine wp_ret ?_
  with_reducible repeat first | refine goR1 ?_ | refine goR2 ?_
  exact (show bodyPost _ _ _ .ret _ _ from ret1 (.slice (some ⟨g3,0,none⟩) ((16-(xs.length%16))%16) ((16-(xs.length%16))%16)) rfl (Qax kj) ⟨_,rfl,(zbL (zbH w) e1),Qb3 (qZ ..) (qT (zbH w).size l3) r3_1 (by rw [maxLen]; omega)⟩)
theorem Qog (xs ys:List Int) (v v2:Value) (B B2:Nat) (w:World) (hx:RdK .u8 B xs v w) (hy:RdK .u8 B2 ys v2 w) (hxb:Qak xs) (hyb:Qak ys) (hl:ys.length=xs.length) (hxl:xs.length≤2000000):Calls Tryz.prog 44 #[v,v2] w (Ret w (.bool (decide (xs=ys)))):=by
 obtain ⟨a_x,c_x,rfl,-⟩:=id hx
 obtain ⟨a_y,c_y,rfl,-⟩:=id hy
 refine enter 26 [(0,.slice a_x xs.length c_x),(1,.slice a_y ys.length c_y)] Tryz.func44 rfl rfl kj rfl <| sgB kj <| sgB kj <| wp_seq_k fun K3 hK3=>sgB kj <| wp_block <| Qa3 (fun (s1:Nat×Int)=>[(0,.slice a_x xs.length c_x),(1,.slice a_y ys.length c_y),(4,.bool false),(5,.int .u8 (s1.2)),(7,.slice a_x xs.length c_x),(8,.int .i64 (xs.length:Int)),(9,.int .i64 (s1.1:Int))]) (fun (s1:Nat×Int) W=>(s1.1≤xs.length)∧(0≤s1.2∧s1.2<256)∧(s1.2=0↔xs.take s1.1=ys.take s1.1)∧(Ext w W)∧(Ext w W)) (fun (s1:Nat×Int)=>xs.length-s1.1) (0,0) ⟨kj,kj,kj,kj,kj,kj,kj,trivial⟩ ⟨(zak _),⟨by decide,by decide⟩,(by simp),(zbH w),(zbH w)⟩ fun s1 X1 V1 hI1=>?_
 obtain ⟨i,d⟩:=s1
 obtain ⟨hi,hdb,hd,kk1,xx1⟩:=hI1
 replace hi:i≤xs.length:=hi
 replace hdb:0≤d∧d<256:=hdb
 replace hd:d=0↔xs.take i=ys.take i:=hd
 replace kk1:Ext w V1:=kk1
 replace xx1:Ext w V1:=xx1
 have e1:=kk1
 refine sgB kj <| wp_seq_k fun K6 hK6=>Qay (t:=decide ((i:Int)<(xs.length:Int))) kj (fun c7=>?_) (fun c7=>?_)
 ·skip
  have hlt:i<xs.length:=by have:=of_decide_eq_true c7; omega
  obtain ⟨grx8,orx8,harx8,-,hlrx8,hcrx8⟩:=Qe6 (zbQ hx xx1) oo
  obtain ⟨gry9,ory9,hary9,-,hlry9,hcry9⟩:=Qe6 (zbQ hy xx1) oo
  refine wp_skip <| hK6 _ _ <| wp_seq_k fun K10 hK10=>wp_block <| sgB kj <| QaT 10 [⟨none,[(5,none)]⟩,⟨none,[(0,none)]⟩,⟨none,[(6,none)]⟩,⟨none,[(13,some 1),(14,some 2)]⟩,⟨none,[(15,some 3)]⟩,⟨none,[(1,none)]⟩,⟨none,[(6,none)]⟩,⟨none,[(17,some 5),(18,some 6)]⟩,⟨none,[(19,some 7)]⟩,⟨none,[(16,some 4),(20,some 8)]⟩] kj kj fun F hF=>Qa2 (Qam _) (.int .u8 (d)) kj kj (fun _=>kj) <| Qa2 (Qam _) (.slice a_x xs.length c_x) kj kj (fun _=>kj) <| Qa2 (Qam _) (.int .i64 (i:Int)) kj kj (fun _=>kj) <| Qa2 (Qam _) (pp grx8 (orx8+i)) kj kj (fun W=>(QaP 41 _ _ .i64 i grx8 orx8 xs.length c_x 5 a_x _ harx8 rfl rfl kj kj kj kj (zan (show i<(xs).length by omega) (rfl:(xs).length=(xs).length).symm))) ?_
  refine QaN (Qam _) (.int .u8 (nth (xs) (i))) kj kj (fun W hR=>(QaB 5 _ _ (.int .u8 (nth (xs) (i))) ((Below.cell (zbI (Qan _) hR) hlrx8).trans (hcrx8 i (zan (show i<(xs).length by omega) (rfl:(xs).length=(xs).length).symm))) rfl kj kj)) <| Qa2 (Qam _) (.slice a_y ys.length c_y) kj kj (fun _=>kj) <| Qa2 (Qam _) (.int .i64 (i:Int)) kj kj (fun _=>kj) <| Qa2 (Qam _) (pp gry9 (ory9+i)) kj kj (fun W=>(QaP 41 _ _ .i64 i gry9 ory9 ys.length c_y 5 a_y _ hary9 rfl rfl kj kj kj kj (zan (show i<(ys).length by omega) (rfl:(ys).length=(ys).length).symm))) <| QaN (Qam _) (.int .u8 (nth (ys) (i))) kj kj (fun W hR=>(QaB 5 _ _ (.int .u8 (nth (ys) (i))) ((Below.cell (zbI (Qan _) hR) hlry9).trans (hcry9 i (zan (show i<(ys).length by omega) (rfl:(ys).length=(ys).length).symm))) rfl kj kj)) <| Qa2 (Qam _) (.int .u8 (bits .xor .u8 ((nth (xs) (i))) ((nth (ys) (i))))) kj kj (fun _=>kj) <| Qc3 (hF _ fun W2 e2=>?_)
  simp only [zap,zaq,zar,zas,zat,zau,finE,up]
  clear hF
  refine sg 2 kj <| Qas <| hK10 _ _ <| Qaj <| sv (.int .i64 ((i+1:Nat):Int)) 23 (Qac (u:=.int .i64 (zal.wrap ((i:Int)+1))) kj (congrArg (zam .i64) (i64n _ _ oo oo))) <| sg 1 kj <| Qas ?_
  with_reducible repeat first | refine goX1 ?_ | refine goX2 ?_ | refine goX3 ?_
  exact Qa1 ((i+1),(bits .or .u8 (d) ((bits .xor .u8 ((nth (xs) (i))) ((nth (ys) (i))))))) ⟨kj,kj,kj,kj,kj,kj,kj,trivial⟩ ⟨oo,(Qov _ _),(QjA hlt oo hxb hyb hdb hd),(zbI e1 e2),(zbL xx1 e2)⟩ (by show xs.length-(i+1)<xs.length-i; omega)
 ·skip
  have hie:i=xs.length:=by have:=of_decide_eq_false c7; omega
  have hall:d=0↔xs=ys:=by rw [hie,zav,zaw oo] at hd; exact hd
  refine wp_exit <| hK3 _ _ <| sgC fun K12 hK12=>sg 1 kj <| sv (.bool (decide (xs=ys))) 25 (Qac (u:=.bool ((d==0))) kj (congrArg zax (QnI _ _ hall))) <| sg 1 kj <| sgN hK12 <| wp_ret ?_
  with_reducible repeat first | refine goR1 ?_ | refine goR2 ?_
  exact (show bodyPost _ _ _ .ret _ _ from ret1 (.bool (decide (xs=ys))) rfl (Qax kj) ⟨rfl,xx1⟩)
set_option maxRecDepth 100000 in
theorem QoB (key y0 y1 y2 y3 y4:List Int) (v0 v1 v2 v3 v4:Value) (gp B:Nat) (w:World) (hkl:key.length=32) (hkb:Qak key) (hB:B≤w.heap.size) (hy0:RdK .u8 B y0 v0 w) (hb0:Qak y0) (hl0:y0.length≤3000000) (hy1:RdK .u8 B y1 v1 w) (hb1:Qak y1) (hl1:y1.length≤3000000) (hy2:RdK .u8 B y2 v2 w) (hb2:Qak y2) (hl2:y2.length≤3000000) (hy3:RdK .u8 B y3 v3 w) (hb3:Qak y3) (hl3:y3.length≤3000000) (hy4:RdK .u8 B y4 v4 w) (hb4:Qak y4) (hl4:y4.length≤3000000) (hp0:w.heap[gp]? = some (.cells #[v0,v1,v2,v3,v4] 41)) :
    Calls Tryz.prog 55 #[.agg (ints .u8 key),.slice (some ⟨gp,0,none⟩) 5 5] w (Ret w (.agg (ints .u8 (tagV (rOf key) (sOf key) (y0++y1++y2++y3++y4))))):=by
  obtain ⟨a_y0,c_y0,rfl,-⟩:=id hy0
  obtain ⟨a_y1,c_y1,rfl,-⟩:=id hy1
  obtain ⟨a_y2,c_y2,rfl,-⟩:=id hy2
  obtain ⟨a_y3,c_y3,rfl,-⟩:=id hy3
  obtain ⟨a_y4,c_y4,rfl,-⟩:=id hy4
  have hp:w.heap[gp]? = some (.cells (cat [#[.slice a_y0 y0.length c_y0],#[.slice a_y1 y1.length c_y1],#[.slice a_y2 y2.length c_y2],#[.slice a_y3 y3.length c_y3],#[.slice a_y4 y4.length c_y4]]) 41):=hp0
  refine enter 22 [(0,.agg (ints .u8 (key))),(1,.slice (some ⟨gp,0,none⟩) 5 5)] Tryz.func55 rfl rfl kj rfl <| sgC fun K2 hK2=>Qah (ints .u8 (key)) 74 2 rfl kj kj fun g3 W1 l3 e1 r3_1=>?_
  have x1:=zbL (zbH w) e1
  have b3:=qT (zbH w).size l3
  refine Qah (ints .u8 (zaj 16 0)) 102 4 rfl kj kj fun g4 W2 l4 e2 r4_2=>?_
  have x2:=zbL x1 e2
  refine sgN hK2 <| sgC fun K5 hK5=>sv (.agg (ints .u8 (key))) 8 (Qae 74 _ g3 74 _ _ (Qaa r3_1 e2) rfl kj kj (isz (n:=32) kj (izT hkl))) <| Qau (fun v W'=>(fun v W=>∃ g,v=pp g 0∧W2.heap.size≤g∧Mk g (rOf key) (sOf key) [] W) v W'∧Ext W2 W') 75 #[.agg (ints .u8 (key))] 9 rfl kj kj ((QiY key _ hkl hkb).mono mo1) fun vv6 W3 hh6=>?_
  obtain ⟨hv6,e3⟩:=hh6
  have x3:=zbL x2 e3
  obtain ⟨gm,rfl,lm,hM0⟩:=hv6
  have hgm:w.heap.size≤gm:=qT x2.size lm
  refine sg 1 kj <| sgN hK5 <| wp_seq_k fun K8 hK8=>sgB kj <| wp_block <| wp_loop_rounds 6 ?_
  show zay _ _ (Exit.then (zaz _ _ _ 5) _) _ _
  refine sgB kj <| sgT kj <| wp_seq_k fun K12 hK12=>wp_block <| sgC fun K13 hK13=>sv (pp gp 0) 14 (Qbr 143 _ _ .i64 (0) gp 5 5 41 rfl kj kj kj kj dd) ?_
  have r1_2:=(Qaa (Qaa hp e1) e2)
  have r1_3:=(Qaa r1_2 e3)
  refine sv (.slice a_y0 y0.length c_y0) 15 (Qab 41 _ gp 0 41 _ (.slice a_y0 y0.length c_y0) _ r1_3 rfl kj kj kj) <| sg 1 kj <| sgN hK13 <| Qaj <| sg 2 kj <| Qau (fun v W'=>v=.tuple #[]∧ExtB gm W3 W'∧Mk gm (rOf key) (sOf key) (y0) W') 76 #[pp gm 0,.slice a_y0 y0.length c_y0] 18 rfl kj kj ((addC gm (rOf key) (sOf key) ([]) y0 _ B _ (QfE key hkl hkb) (qT hB hgm) (zbQ hy0 x3) hb0 hl0 hM0).mono fun e w' h=>⟨_,h.1,rfl,h.2⟩) fun v W4 h4=>?_
  obtain ⟨rfl,q4,M4⟩:=h4
  have x4:=zbO x3 q4 hgm
  refine Qas <| hK12 _ _ <| sgA kj ?_
  show zaz _ _ _ 5 _ _
  show zay _ _ (Exit.then (zaz _ _ _ 4) _) _ _
  refine sgB kj <| sgT kj <| wp_seq_k fun K16 hK16=>wp_block <| sgC fun K17 hK17=>sv (pp gp 1) 14 (Qbr 143 _ _ .i64 (1) gp 5 5 41 rfl kj kj kj kj dd) ?_
  have r1_4:=(zbN q4 r1_3 (Qad r1_2 lm))
  refine sv (.slice a_y1 y1.length c_y1) 15 (Qab 41 _ gp 1 41 _ (.slice a_y1 y1.length c_y1) _ r1_4 rfl kj kj kj) <| sg 1 kj <| sgN hK17 <| Qaj <| sg 2 kj <| Qau (fun v W'=>v=.tuple #[]∧ExtB gm W4 W'∧Mk gm (rOf key) (sOf key) (y0++y1) W') 76 #[pp gm 0,.slice a_y1 y1.length c_y1] 18 rfl kj kj ((addC gm (rOf key) (sOf key) (y0) y1 _ B _ (QfE key hkl hkb) (qT hB hgm) (zbQ hy1 x4) hb1 hl1 M4).mono fun e w' h=>⟨_,h.1,rfl,h.2⟩) fun v W5 h5=>?_
  obtain ⟨rfl,q5,M5⟩:=h5
  have x5:=zbO x4 q5 hgm
  refine Qas <| hK16 _ _ <| sgA kj ?_
  show zaz _ _ _ 4 _ _
  show zay _ _ (Exit.then (zaz _ _ _ 3) _) _ _
  refine sgB kj <| sgT kj <| wp_seq_k fun K20 hK20=>wp_block <| sgC fun K21 hK21=>sv (pp gp 2) 14 (Qbr 143 _ _ .i64 (2) gp 5 5 41 rfl kj kj kj kj dd) ?_
  have r1_5:=(zbN q5 r1_4 (Qad r1_2 lm))
  refine sv (.slice a_y2 y2.length c_y2) 15 (Qab 41 _ gp 2 41 _ (.slice a_y2 y2.length c_y2) _ r1_5 rfl kj kj kj) <| sg 1 kj <| sgN hK21 <| Qaj <| sg 2 kj <| Qau (fun v W'=>v=.tuple #[]∧ExtB gm W5 W'∧Mk gm (rOf key) (sOf key) (y0++y1++y2) W') 76 #[pp gm 0,.slice a_y2 y2.length c_y2] 18 rfl kj kj ((addC gm (rOf key) (sOf key) (y0++y1) y2 _ B _ (QfE key hkl hkb) (qT hB hgm) (zbQ hy2 x5) hb2 hl2 M5).mono fun e w' h=>⟨_,h.1,rfl,h.2⟩) fun v W6 h6=>?_
  obtain ⟨rfl,q6,M6⟩:=h6
  have x6:=zbO x5 q6 hgm
  refine Qas <| hK20 _ _ <| sgA kj ?_
  show zaz _ _ _ 3 _ _
  show zay _ _ (Exit.then (zaz _ _ _ 2) _) _ _
  refine sgB kj <| sgT kj <| wp_seq_k fun K24 hK24=>wp_block <| sgC fun K25 hK25=>sv (pp gp 3) 14 (Qbr 143 _ _ .i64 (3) gp 5 5 41 rfl kj kj kj kj dd) ?_
  have r1_6:=(zbN q6 r1_5 (Qad r1_2 lm))
  refine sv (.slice a_y3 y3.length c_y3) 15 (Qab 41 _ gp 3 41 _ (.slice a_y3 y3.length c_y3) _ r1_6 rfl kj kj kj) <| sg 1 kj <| sgN hK25 <| Qaj <| sg 2 kj <| Qau (fun v W'=>v=.tuple #[]∧ExtB gm W6 W'∧Mk gm (rOf key) (sOf key) (y0++y1++y2++y3) W') 76 #[pp gm 0,.slice a_y3 y3.length c_y3] 18 rfl kj kj ((addC gm (rOf key) (sOf key) (y0++y1++y2) y3 _ B _ (QfE key hkl hkb) (qT hB hgm) (zbQ hy3 x6) hb3 hl3 M6).mono fun e w' h=>⟨_,h.1,rfl,h.2⟩) fun v W7 h7=>?_
  obtain ⟨rfl,q7,M7⟩:=h7
  have x7:=zbO x6 q7 hgm
  refine Qas <| hK24 _ _ <| sgA kj ?_
  show zaz _ _ _ 2 _ _
  show zay _ _ (Exit.then (zaz _ _ _ 1) _) _ _
  refine sgB kj <| sgT kj <| wp_seq_k fun K28 hK28=>wp_block <| sgC fun K29 hK29=>sv (pp gp 4) 14 (Qbr 143 _ _ .i64 (4) gp 5 5 41 rfl kj kj kj kj dd) <| sv (.slice a_y4 y4.length c_y4) 15 (Qab 41 _ gp 4 41 _ (.slice a_y4 y4.length c_y4) _ (zbN q7 r1_6 (Qad r1_2 lm)) rfl kj kj kj) <| sg 1 kj <| sgN hK29 <| Qaj ?_
  refine sg 2 kj <| Qau (fun v W'=>v=.tuple #[]∧ExtB gm W7 W'∧Mk gm (rOf key) (sOf key) (y0++y1++y2++y3++y4) W') 76 #[pp gm 0,.slice a_y4 y4.length c_y4] 18 rfl kj kj ((addC gm (rOf key) (sOf key) (y0++y1++y2++y3) y4 _ B _ (QfE key hkl hkb) (qT hB hgm) (zbQ hy4 x7) hb4 hl4 M7).mono fun e w' h=>⟨_,h.1,rfl,h.2⟩) fun v W8 h8=>?_
  obtain ⟨rfl,q8,M8⟩:=h8
  refine Qas <| hK28 _ _ <| sgA kj ?_
  show zaz _ _ _ 1 _ _
  show zay _ _ (Exit.then (zaz _ _ _ 0) _) _ _
  refine sgB kj <| wp_seq_k fun K31 hK31=>cond_false kj <| wp_exit <| hK8 _ _ <| sgC fun K32 hK32=>sg 1 kj <| Qau (fun v W'=>v=.agg (ints .u8 (tagV (rOf key) (sOf key) (y0++y1++y2++y3++y4)))∧ExtB gm W8 W') 77 #[pp gm 0] 21 rfl kj kj ((endC gm (rOf key) (sOf key) (y0++y1++y2++y3++y4) _ (QfE key hkl hkb) (Qoh key hkl hkb) M8).mono fun e w' h=>⟨_,h.1,rfl,h.2⟩) fun v W9 h9=>?_
  obtain ⟨rfl,q9⟩:=h9
  have r4_9:=(zbN q9 (zbN q8 (zbN q7 (zbN q6 (zbN q5 (zbN q4 (Qaa r4_2 e3) (Qad r4_2 lm)) (Qad r4_2 lm)) (Qad r4_2 lm)) (Qad r4_2 lm)) (Qad r4_2 lm)) (Qad r4_2 lm))
  refine Qag g4 _ (ints .u8 (tagV (rOf key) (sOf key) (y0++y1++y2++y3++y4))) 102 r4_9 rfl kj (Qaf 102 _ _ g4 102 _ _ r4_9 rfl kj kj (isz (n:=16) kj (izT (QaV _))) (eqsz (n:=16) (izT (qZ (n:=16))) (izT (QaV _))) (Qat _ _)) fun W10 p10 r4_10=>sgN hK32 <| wp_ret ?_
  with_reducible repeat first | refine goR1 ?_ | refine goR2 ?_
  exact (show bodyPost _ _ _ .ret _ _ from ret1 (.agg (ints .u8 (tagV (rOf key) (sOf key) (y0++y1++y2++y3++y4)))) rfl (QaJ g4 102 _ r4_10 kj kj (isz (n:=16) kj (izT (QaV _)))) ⟨rfl,(zbK p10 (zbO (zbO x7 q8 hgm) q9 hgm) (qT x1.size l4))⟩)
end Ae
end
section
namespace Ae
open Go Go.RowKit
open Rely Auto Own Sha
open Sha Cha
theorem Qoj {P : Program} {ρ:Operand→Value} {o:Oper} {w:World} (t:TypeId) (n:Nat) (parts:Array (Nat×Operand)) (vs:Array (Nat×Value)) (ho:o.op=.buildSlice t n parts) (hv:(parts.map fun (i,x)=>(i,ρ x))=vs) {s:Value} {w':World} (h:(Instr.buildSlice t n vs).run P w=.ok s w') :
    (execOp ρ o).run P w=.ok (.value s) w':=by
  unfold execOp
  simp only [ho,hv,za0,h,za1,za2]
theorem run_sap {P : Program} {ρ:Operand→Value} {o:Oper} {w:World} (t:TypeId) (x:Operand) (n:Nat) (e:TypeId) {a:Option Addr} {len cap:Nat} (ho:o.op=.sliceToArrayPointer t x) (hx:ρ x=.slice a len cap) (hu:P.underlying t=some (.array n e)) (h:n≤len) :
    (execOp ρ o).run P w=.ok (.value (.pointer a)) w:=by
  unfold execOp
  simp [ho,hx,Instr.arrayAt,run_underlying hu,Nat.not_lt.2 h]
theorem QlI {k : IntKind} {xs:List Int} {n:Nat}:∀ j v,(ints k (xs.take n))[j]? = some v→(ints k xs)[0+j]? = some v:=fun j v hv=>by
  rw [za3]
  have hj:j<(xs.take n).length:=by
    have:=(za4.1 hv).1
    rwa [Qbq] at this
  have hj2:j<n∧j<xs.length:=by rw [zai] at hj; omega
  rw [←hv,QaD _ _ _ hj,QaD _ _ _ hj2.2,Qgm _ _ _ hj2.1]
theorem QgL (ws : List Wd) (n:Int):Qak (Qbu ws n):=fun x hx=>by
  unfold Qbu Qco at hx
  obtain ⟨i,-,rfl⟩:=zab.1 hx
  omega
def otk (key nonce:List Int):List Int:=(Qbu (Qbb key nonce) 0).take 32
theorem QjX (key nonce:List Int):(otk key nonce).length=32:=by unfold otk; rw [zai,QbN]; rfl
theorem QjY (key nonce:List Int):Qak (otk key nonce):=Qbg (QgL _ _) 32
def padV (xs : List Int):List Int:=zaj ((16-xs.length%16)%16) 0
theorem Qid (xs : List Int):(padV xs).length=(16-xs.length%16)%16:=qZ
theorem QfG (xs : List Int):Qak (padV xs):=fun x hx=>by
  have:=za5 hx
  subst this
  exact ⟨by decide,by decide⟩
def QpJ (ctx mixed:List Int):List Int:=ctx++padV ctx++mixed++padV mixed++(by8 (ctx.length:Int)++by8 (mixed.length:Int))
def Qdy (key nonce ctx mixed:List Int):List Int:=tagV (rOf (otk key nonce)) (sOf (otk key nonce)) (QpJ ctx mixed)
theorem QbD (key nonce ctx mixed:List Int):(Qdy key nonce ctx mixed).length=16:=QaV _
theorem Qmg (n0 : Nat) (xs:List Int) (v:Value) (B:Nat) (w:World) (h:RdK .u8 B xs v w) (hn0:n0≤w.heap.size):Calls Tryz.prog 56 #[v] w (Qby w (OwnN .u8 5 n0 (padV xs))) :=
  (QnQ xs v B w h).mono fun e W' hg=>by
    obtain ⟨v',e1,e2,e3⟩:=hg
    exact ⟨v',e1,e2,e3.base hn0⟩
set_option maxRecDepth 100000 in
theorem Qki (key nonce ctx mixed:List Int) (v v2 v3:Value) (B B2 B3:Nat) (th tq:TypeId) (w:World) (hh:w.heap[0]? = some (.cells (ints .u32 qH) th)) (hq:w.heap[1]? = some (.cells (ints .i64 qQ) tq)) (hkl:key.length=32) (hn:RdK .u8 B nonce v w) (hc:RdK .u8 B2 ctx v2 w) (hm:RdK .u8 B3 mixed v3 w) (h:nonce.length=12) (hcb:Qak ctx) (hmb:Qak mixed) (hcl:ctx.length≤2000000) (hml:mixed.length≤2000000) :
  Calls Tryz.prog 39 #[.agg (ints .u8 key),v,v2,v3] w (Ret w (.tuple #[.agg (ints .u8 (Qdy key nonce ctx mixed)),.nilIface])):=by
 obtain ⟨a_n,c_n,rfl,-⟩:=id hn
 obtain ⟨a_c,c_c,rfl,-⟩:=id hc
 obtain ⟨a_m,c_m,rfl,-⟩:=id hm
 refine enter 42 [(0,.agg (ints .u8 (key))),(1,.slice a_n nonce.length c_n),(2,.slice a_c ctx.length c_c),(3,.slice a_m mixed.length c_m)] Tryz.func39 rfl rfl kj rfl <| sgC fun K3 hK3=>Qah (ints .u8 (key)) 74 4 rfl kj kj fun g4 W1 l4 e1 r4_1=>?_
 have x1:=zbL (zbH w) e1
 have b4:=qT (zbH w).size l4
 refine Qah (ints .u8 (zaj 16 0)) 102 8 rfl kj kj fun g5 W2 l5 e2 r5_2=>?_
 have x2:=zbL x1 e2
 refine sg 1 kj <| sgN hK3 <| sgC fun K6 hK6=>sv (.agg (ints .u8 (key))) 14 (Qae 74 _ g4 74 _ _ (Qaa r4_1 e2) rfl kj kj (isz (n:=32) kj (izT hkl))) <| sg 1 kj <| Qao (.tuple #[.agg (ints .u8 (Qbu (Qbb key nonce) (0))),.nilIface]) 53 #[.agg (ints .u8 (key)),.slice a_n nonce.length c_n,.int .i64 0] 16 rfl kj kj ((QnL key nonce _ _ 0 th tq _ (Qaa (Qaa hh e1) e2) (Qaa (Qaa hq e1) e2) hkl (zbQ hn x2) h dd dd)) fun W3 e3=>?_
 have x3:=zbL x2 e3
 refine sg 3 kj <| Qah (ints .u8 (zaj 64 0)) 120 10 rfl kj kj fun g7 W4 l7 e4 r7_4=>Qag g7 _ (ints .u8 (Qbu (Qbb key nonce) (0))) 120 r7_4 rfl kj (Qaf 120 _ _ g7 120 _ _ r7_4 rfl kj kj (isz (n:=64) kj (izT (QbN _ _))) (eqsz (n:=64) (izT (qZ (n:=64))) (izT (QbN _ _))) (Qat _ _)) fun W5 p5 r7_5=>?_
 have x5:=zbK p5 (zbL x3 e4) (qT x3.size l7)
 refine sg 1 kj <| sgN hK6 <| wp_seq_k fun K8 hK8=>sgB kj <| cond_false kj <| wp_skip <| hK8 _ _ <| sgC fun K10 hK10=>sg 2 kj <| Qau (fun v W'=>(OwnN .u8 5 W5.heap.size (by8 (ctx.length:Int))) v W'∧Ext W5 W') 54 #[.int .i64 (ctx.length:Int)] 25 rfl kj kj ((Qkn (ctx.length) _).mono mo1) fun vv11 W6 hh11=>?_
 obtain ⟨hv11,e6⟩:=hh11
 obtain ⟨a25_,c25_,rfl,-⟩:=id (zbR hv11)
 refine sg 2 kj <| Qau (fun v W'=>(OwnN .u8 5 W6.heap.size (by8 (mixed.length:Int))) v W'∧Ext W6 W') 54 #[.int .i64 (mixed.length:Int)] 28 rfl kj kj ((Qkn (mixed.length) _).mono mo1) fun vv12 W7 hh12=>?_
 obtain ⟨hv12,e7⟩:=hh12
 obtain ⟨a28_,c28_,rfl,-⟩:=id (zbR hv12)
 refine QaH (k:=.u8) (T:=5) (xs:=by8 (ctx.length:Int)) (ys:=by8 (mixed.length:Int)) (V:=W5) 1 (.tmp 25) (.tmp 28) 41 rfl kj kj dd 29 rfl kj kj kj (hv11.ext e7) (zbR hv12) (by rw [Qdx,Qdx]; decide) (zbI (zbI (zbH W5) e6) e7) fun zl W8 f14 y8 l8=>?_
 have x8:=Ext.low (zbL (zbL x5 e6) e7) l8 x5.size
 obtain ⟨a29_,c29_,rfl,-⟩:=id (zbR f14)
 refine sg 1 kj <| sgN hK10 <| wp_seq_k fun K16 hK16=>QaT 11 [⟨none,[(10,none)]⟩,⟨none,[(30,some 0)]⟩,⟨none,[(31,some 1)]⟩,⟨none,[(2,none)]⟩,⟨none,[(2,none)]⟩,⟨none,[(34,some 4)]⟩,⟨none,[(3,none)]⟩,⟨none,[(3,none)]⟩,⟨none,[(37,some 7)]⟩,⟨none,[(12,none)]⟩,⟨none,[(33,some 3),(35,some 5),(36,some 6),(38,some 8),(39,some 9)]⟩] kj kj fun F hF=>Qa2 (Qam _) (.slice (some ⟨g7,0+0,none⟩) (32-0) (64-0)) kj kj (fun W=>(QbA 120 _ _ _ 0 32 64 g7 0 5 rfl kj kj kj rfl ⟨.i64,by kernel_rfl⟩ oo oo oo)) <| Qa2 (Qam _) (pp g7 0) kj kj (fun W=>(run_sap 74 _ 32 5 (len:=32) (cap:=64) rfl kj kj dd)) <| QaN (Qam _) (.agg (ints .u8 (otk key nonce))) kj kj (fun W hR=>(Qa4 74 _ g7 0 120 _ (ints .u8 (otk key nonce)) _ (Qaa (Qaa (Qbk l8 (Qaa (Qaa r7_5 e6) e7) (Qaq r7_5)) (Qan _)) hR) rfl kj (QlI (xs:=Qbu (Qbb key nonce) (0)) (n:=32)) kj (isz (n:=32) kj (izT (QjX _ _))))) <| Qa2 (Qam _) (.slice a_c ctx.length c_c) kj kj (fun _=>kj) <| Qa2 (Qam _) (.slice a_c ctx.length c_c) kj kj (fun _=>kj) <| Qfv (Qam _) (OwnN .u8 5 W8.heap.size (padV ctx)) (zbP _ _ _ _) 56 #[.slice a_c ctx.length c_c] kj kj (fun _=>kj) (fun W hR=>(Qmg W8.heap.size ctx _ _ _ (zbQ (zbQ hc x8) (zbI (Qan _) hR)) (zbI (Qan _) hR).size)) ?_
 refine Qa2 (Qam _) (.slice a_m mixed.length c_m) kj kj (fun _=>kj) <| Qa2 (Qam _) (.slice a_m mixed.length c_m) kj kj (fun _=>kj) <| Qfv (Qam _) (OwnN .u8 5 W8.heap.size (padV mixed)) (zbP _ _ _ _) 56 #[.slice a_m mixed.length c_m] kj kj (fun _=>kj) (fun W hR=>(Qmg W8.heap.size mixed _ _ _ (zbQ (zbQ hm x8) (zbI (Qan _) hR)) (zbI (Qan _) hR).size)) <| Qa2 (Qam _) (.slice a29_ ((by8 (ctx.length:Int)++by8 (mixed.length:Int)).length) c29_) kj kj (fun _=>kj) <| Qhg (Qam _) (fun v W=>∃ g za35_19 za38_19,v=.slice (some ⟨g,0,none⟩) 5 5∧W8.heap.size≤g∧W.heap[g]? = some (.cells #[.slice a_c ctx.length c_c,za35_19,.slice a_m mixed.length c_m,za38_19,.slice a29_ ((by8 (ctx.length:Int)++by8 (mixed.length:Int)).length) c29_] 41)∧(OwnN .u8 5 W8.heap.size (padV ctx)) za35_19 W∧(OwnN .u8 5 W8.heap.size (padV mixed)) za38_19 W) (fun _ _ _ hR ⟨g,za35_19,za38_19,h1,h2,h3,qza35_19,qza38_19⟩=>⟨g,za35_19,za38_19,h1,h2,Qaa h3 hR,(zbP _ _ _ _) _ _ _ hR qza35_19,(zbP _ _ _ _) _ _ _ hR qza38_19⟩) (fun ρ W hR hh=>?_) ?_
 ·skip
  have e33:ρ 33=.slice a_c ctx.length c_c:=hh.1
  obtain ⟨ar35,cr35,e35,-⟩:=id (zbR hh.2.1)
  have e36:ρ 36=.slice a_m mixed.length c_m:=hh.2.2.1
  obtain ⟨ar38,cr38,e38,-⟩:=id (zbR hh.2.2.2.1)
  have e39:ρ 39=.slice a29_ ((by8 (ctx.length:Int)++by8 (mixed.length:Int)).length) c29_:=hh.2.2.2.2.1
  refine ⟨_,_,Qoj 143 5 _ _ rfl (Eq.trans (b:=#[(0,ρ 33),(1,ρ 35),(2,ρ 36),(3,ρ 38),(4,ρ 39)]) kj (by rw [e33,e35,e36,e38,e39])) (s:=.slice (some ⟨W.heap.size,0,none⟩) 5 5) (w':=W.alloc (.cells #[.slice a_c ctx.length c_c,.slice ar35 (padV ctx).length cr35,.slice a_m mixed.length c_m,.slice ar38 (padV mixed).length cr38,.slice a29_ ((by8 (ctx.length:Int)++by8 (mixed.length:Int)).length) c29_] 41)) kj,Qbi _ _,⟨W.heap.size,ρ 35,ρ 38,rfl,(zbI (Qan _) hR).size,?_,(zbP _ _ _ _) _ _ _ (Qbi _ _) hh.2.1,(zbP _ _ _ _) _ _ _ (Qbi _ _) hh.2.2.2.1⟩⟩
  rw [e35,e38]; exact heap_alloc_new _ _
 refine Qc3 (hF _ fun W9 e9=>?_)
 simp only [zap,zaq,zar,zas,zat,zau,finE,up]
 intro vv17 hv17 vv18 hv18 vv19 hv19
 clear hF
 have x9:=zbL x8 e9
 obtain ⟨g20,za35_19,za38_19,rfl,l20,r20_9,qza35_19,qza38_19⟩:=hv19
 have b20:=qT x8.size l20
 obtain ⟨a35b_,c35b_,rfl,-⟩:=id (zbR qza35_19)
 obtain ⟨a38b_,c38b_,rfl,-⟩:=id (zbR qza38_19)
 refine Qao (.agg (ints .u8 (Qdy key nonce ctx mixed))) 55 #[.agg (ints .u8 (otk key nonce)),.slice (some ⟨g20,0,none⟩) 5 5] 41 rfl kj kj ((QoB (otk key nonce) ctx (padV ctx) mixed (padV mixed) (by8 (ctx.length:Int)++by8 (mixed.length:Int)) _ _ _ _ _ _ _ _ (QjX _ _) (QjY _ _) (qR _) (zbW (zbQ hc x9)) hcb oo (zbW (zbR qza35_19)) (QfG _) (by rw [Qid]; omega) (zbW (zbQ hm x9)) hmb oo (zbW (zbR qza38_19)) (QfG _) (by rw [Qid]; omega) (zbW (zbR (f14.ext e9))) (bytes_app (Qhk _) (Qhk _)) (by rw [za6,Qdx,Qdx]; decide) r20_9)) fun W10 e10=>?_
 have r5_3:=(Qaa r5_2 e3)
 have r5_5:=(rpn p5 r5_3 e4 l7)
 have r5_10:=(Qaa (Qaa (Qbk l8 (Qaa (Qaa r5_5 e6) e7) (Qaq r5_5)) e9) e10)
 refine Qag g5 _ (ints .u8 (Qdy key nonce ctx mixed)) 102 r5_10 rfl kj (Qaf 102 _ _ g5 102 _ _ r5_10 rfl kj kj (isz (n:=16) kj (izT (QbD _ _ _ _))) (eqsz (n:=16) (izT (qZ (n:=16))) (izT (QbD _ _ _ _))) (Qat _ _)) fun W11 p11 r5_11=>sg 1 kj <| sgN hK16 <| wp_ret ?_
 with_reducible repeat first | refine goR1 ?_ | refine goR2 ?_
 exact (show bodyPost _ _ _ .ret _ _ from ret2 (.agg (ints .u8 (Qdy key nonce ctx mixed))) (.nilIface) rfl (QaJ g5 102 _ r5_11 kj kj (isz (n:=16) kj (izT (QbD _ _ _ _)))) (Qax kj) ⟨rfl,(zbK p11 (zbL x9 e10) (qT x1.size l5))⟩)
end Ae
end
section
namespace Ae
open Go Go.RowKit
open Rely Auto Own Sha
open Sha Cha
def Qds (key nonce ctx text:List Int):List Int:=mixV (Qbb key nonce) 1 text++Qdy key nonce ctx (mixV (Qbb key nonce) 1 text)
theorem QcV (key nonce ctx text:List Int):(Qds key nonce ctx text).length=text.length+16:=by unfold Qds; rw [za6,QbW,QbD]
theorem Qlj (xs ys:List Int) (v v2:Value) (B B2:Nat) (w:World) (e:xs=ys) (hx:RdK .u8 B xs v w) (hy:RdK .u8 B2 ys v2 w) (hxb:Qak xs) (hyb:Qak ys) (hl:ys.length=xs.length) (hxl:xs.length≤2000000):Calls Tryz.prog 44 #[v,v2] w (Ret w (.bool true)):=by
  have h:=Qog xs ys v v2 B B2 w hx hy hxb hyb hl hxl
  rw [decide_eq_true e] at h
  exact h
theorem Qfy (key nonce ctx mixed:List Int):Qak (Qdy key nonce ctx mixed):=Qjn _
theorem QdB (key nonce ctx text:List Int):Qak (Qds key nonce ctx text):=bytes_app (QfL _ _ _) (Qfy _ _ _ _)
theorem MixE (key nonce text fm:List Int) (v v2:Value) (B B2:Nat) (th tq:TypeId) (w:World) (hh:w.heap[0]? = some (.cells (ints .u32 qH) th)) (hq:w.heap[1]? = some (.cells (ints .i64 qQ) tq)) (hkl:key.length=32) (hn:RdK .u8 B nonce v w) (ht:RdK .u8 B2 text v2 w) (h:nonce.length=12) (hl:text.length≤2000000) (em:mixV (Qbb key nonce) 1 text=fm) :
    Calls Tryz.prog 38 #[.agg (ints .u8 key),v,.int .i64 1,v2] w (Qby w (MixR w.heap.size fm)):=by
  subst em
  exact MixG w.heap.size key nonce text v v2 B B2 1 th tq w hh hq hkl hn ht h 4294967295 dd dd dd oo hl (qR _)
set_option maxRecDepth 100000 in
theorem QoZ (key nonce ctx text:List Int) (v v2 v3:Value) (B B2 B3:Nat) (th tq:TypeId) (w:World) (hh:w.heap[0]? = some (.cells (ints .u32 qH) th)) (hq:w.heap[1]? = some (.cells (ints .i64 qQ) tq)) (hkl:key.length=32) (hn:RdK .u8 B nonce v w) (hc:RdK .u8 B2 ctx v2 w) (ht:RdK .u8 B3 text v3 w) (hcb:Qak ctx) (h:nonce.length=12) (hcl:ctx.length≤1048576) (hxl:text.length≤1048576) :
    Calls Tryz.prog 24 #[.agg (ints .u8 key),v,v2,v3] w (Qby w (MixR w.heap.size (Qds key nonce ctx text))):=by
  obtain ⟨a_n,c_n,rfl,-⟩:=id hn
  obtain ⟨a_c,c_c,rfl,-⟩:=id hc
  obtain ⟨a_t,c_t,rfl,-⟩:=id ht
  obtain ⟨fm,em⟩:∃ z:List Int,mixV (Qbb key nonce) 1 text=z:=⟨_,rfl⟩
  have lfm:fm.length=text.length:=by rw [←em,QbW]
  have hfb:Qak fm:=by rw [←em]; exact QfL _ _ _
  refine enter 51 [(0,.agg (ints .u8 (key))),(1,.slice a_n nonce.length c_n),(2,.slice a_c ctx.length c_c),(3,.slice a_t text.length c_t)] Tryz.func24 rfl rfl kj rfl <| sgC fun K3 hK3=>Qah (ints .u8 (key)) 74 4 rfl kj kj fun g4 W1 l4 e1 r4_1=>?_
  have x1:=zbL (zbH w) e1
  have b4:=qT (zbH w).size l4
  refine sg 2 kj <| sgN hK3 <| wp_seq_k fun K5 hK5=>sgC fun K6 hK6=>sg 2 kj <| sv (.bool false) 15 (Qac (u:=.bool (((nonce.length:Int) != 12))) kj (congrArg zax (by rw [h]; rfl))) ?_
  refine sg 3 kj <| sv (.bool false) 19 (Qac (u:=.bool (decide ((ctx.length:Int)>1048576))) kj (congrArg zax (decide_eq_false oo))) <| sg 4 kj <| sv (.bool false) 24 (Qac (u:=.bool (decide ((text.length:Int)>1048576))) kj (congrArg zax (decide_eq_false oo))) <| sg 1 kj <| sgN hK6 <| cond_false kj <| wp_skip <| hK5 _ _ <| sgC fun K7 hK7=>?_
  refine sv (.agg (ints .u8 (key))) 28 (Qae 74 _ g4 74 _ _ r4_1 rfl kj kj (isz (n:=32) kj (izT hkl))) <| sg 2 kj ?_
  have r2_1:=(Qaa hh e1)
  have r1_1:=(Qaa hq e1)
  refine Qau (fun v W'=>(MixR W1.heap.size (fm)) v W'∧Ext W1 W') 38 #[.agg (ints .u8 (key)),.slice a_n nonce.length c_n,.int .i64 1,.slice a_t text.length c_t] 31 rfl kj kj ((MixE key nonce (text) (fm) _ _ _ _ th tq _ r2_1 r1_1 hkl (zbQ hn x1) (zbQ ht x1) h oo em).mono mo1) fun vv8 W2 hh8=>?_
  obtain ⟨hv8,e2⟩:=hh8
  have x2:=zbL x1 e2
  obtain ⟨u31_,rfl,hu31_⟩:=hv8
  obtain ⟨a31_,c31_,rfl,-⟩:=id (zbR hu31_)
  refine sg 5 kj <| sgN hK7 <| wp_seq_k fun K9 hK9=>sgB kj <| cond_false kj <| wp_skip <| hK9 _ _ <| sgC fun K11 hK11=>sv (.agg (ints .u8 (key))) 38 (Qae 74 _ g4 74 _ _ (Qaa r4_1 e2) rfl kj kj (isz (n:=32) kj (izT hkl))) <| sg 3 kj ?_
  refine Qao (.tuple #[.agg (ints .u8 (Qdy key nonce ctx fm)),.nilIface]) 39 #[.agg (ints .u8 (key)),.slice a_n nonce.length c_n,.slice a_c ctx.length c_c,.slice a31_ ((fm).length) c31_] 42 rfl kj kj ((Qki key nonce ctx fm _ _ _ _ _ _ th tq _ (Qaa r2_1 e2) (Qaa r1_1 e2) hkl (zbQ hn x2) (zbQ hc x2) (zbR hu31_) h hcb hfb oo oo)) fun W3 e3=>?_
  have x3:=zbL x2 e3
  refine sg 3 kj <| Qah (ints .u8 (zaj 16 0)) 102 12 rfl kj kj fun g12 W4 l12 e4 r12_4=>Qag g12 _ (ints .u8 (Qdy key nonce ctx fm)) 102 r12_4 rfl kj (Qaf 102 _ _ g12 102 _ _ r12_4 rfl kj kj (isz (n:=16) kj (izT (QbD _ _ _ _))) (eqsz (n:=16) (izT (qZ (n:=16))) (izT (QbD _ _ _ _))) (Qat _ _)) fun W5 p5 r12_5=>sg 1 kj <| sgN hK11 <| wp_seq_k fun K13 hK13=>sgB kj <| cond_false kj <| wp_skip <| hK13 _ _ ?_
  refine sgC fun K15 hK15=>sg 2 kj ?_
  have f16_3:=(hu31_.ext e3)
  have y1_3:=(zbI (zbI (zbH W1) e2) e3)
  refine QaH (k:=.u8) (T:=5) (xs:=fm) (ys:=Qdy key nonce ctx fm) (V:=W1) 1 (.tmp 48) (.tmp 49) 41 rfl kj kj dd 50 rfl kj kj kj ((f16_3.ext e4).puts p5 (nb_new f16_3 l12)) (QaL (xs:=Qdy key nonce ctx fm) (n:=16) (QbD _ _ _ _) r12_5 (Qaq r12_5) (show 16≤maxLen from by decide)) (by rw [QbD]; omega) (zbK p5 (zbI y1_3 e4) (qT y1_3.size l12)) fun zs W6 f19 y6 l6=>?_
  refine sg 2 kj <| sgN hK15 <| wp_ret ?_
  with_reducible repeat first | refine goR1 ?_ | refine goR2 ?_
  exact (show bodyPost _ _ _ .ret _ _ from ret2 (zs) (.nilIface) rfl (Qax kj) (Qax kj) ⟨_,rfl,(Ext.low (zbK p5 (zbL x3 e4) (qT x3.size l12)) l6 x1.size),zs,rfl,by unfold Qds; rw [em]; exact OwnN.base x1.size f19⟩)
end Ae
end
section
namespace Ae
open Go Go.RowKit
open Rely Auto Own Sha
open Sha Cha
theorem Qhd (n : Nat) (h:16≤n) (hm:n≤maxLen):zal.wrap ((n:Int)-16)=((n-16:Nat):Int):=by
  rw [show (n:Int)-16=((n-16:Nat):Int) by omega]
  exact IntWalk.i64_in _ (by rw [maxLen] at hm; omega)
set_option maxRecDepth 100000 in
theorem Qpb (key nonce ctx sl:List Int) (v v2 v3:Value) (B B2 B3:Nat) (th tq:TypeId) (w:World) (hh:w.heap[0]? = some (.cells (ints .u32 qH) th)) (hq:w.heap[1]? = some (.cells (ints .i64 qQ) tq)) (hkl:key.length=32) (hn:RdK .u8 B nonce v w) (hc:RdK .u8 B2 ctx v2 w) (ht:RdK .u8 B3 sl v3 w) (hcb:Qak ctx) (htb:Qak sl) (h:nonce.length=12) (hcl:ctx.length≤1048592) (hxl:sl.length≤1048592) (hsh:16≤sl.length) (hne:Qdy key nonce ctx (sl.take (sl.length-16))=sl.drop (sl.length-16)) :
    Calls Tryz.prog 29 #[.agg (ints .u8 key),v,v2,v3] w (Qby w (MixR w.heap.size (mixV (Qbb key nonce) 1 (sl.take (sl.length-16))))):=by
  obtain ⟨a_n,c_n,rfl,-⟩:=id hn
  obtain ⟨a_c,c_c,rfl,-⟩:=id hc
  obtain ⟨a_t,c_t,rfl,-⟩:=id ht
  have ctk:sl.length≤c_t:=by
    obtain ⟨_,_,e,q2,_⟩:=id ht
    simp only [za7.injEq] at e
    obtain ⟨-,-,rfl⟩:=e
    exact q2
  have htm:sl.length≤maxLen:=RdK.len ht
  have hlt_:(sl.take (sl.length-16)).length=sl.length-16:=by rw [zai]; omega
  obtain ⟨fm,em⟩:∃ z:List Int,mixV (Qbb key nonce) 1 (sl.take (sl.length-16))=z:=⟨_,rfl⟩
  refine enter 64 [(0,.agg (ints .u8 (key))),(1,.slice a_n nonce.length c_n),(2,.slice a_c ctx.length c_c),(3,.slice a_t sl.length c_t)] Tryz.func29 rfl rfl kj rfl <| sgC fun K3 hK3=>Qah (ints .u8 (key)) 74 4 rfl kj kj fun g4 W1 l4 e1 r4_1=>?_
  have b4:=qT (zbH w).size l4
  refine sg 2 kj <| sgN hK3 <| wp_seq_k fun K5 hK5=>sgC fun K6 hK6=>sg 2 kj <| sv (.bool false) 16 (Qac (u:=.bool (((nonce.length:Int) != 12))) kj (congrArg zax (by rw [h]; rfl))) ?_
  refine sg 3 kj <| sv (.bool false) 20 (Qac (u:=.bool (decide ((ctx.length:Int)>1048592))) kj (congrArg zax (decide_eq_false oo))) <| sg 4 kj <| sv (.bool false) 25 (Qac (u:=.bool (decide ((sl.length:Int)>1048592))) kj (congrArg zax (decide_eq_false oo))) <| sg 1 kj <| sgN hK6 <| cond_false kj <| wp_skip <| hK5 _ _ <| wp_seq_k fun K7 hK7=>?_
  refine sgC fun K8 hK8=>sg 2 kj <| sv (.bool false) 30 (Qac (u:=.bool (decide ((sl.length:Int)<16))) kj (congrArg zax (decide_eq_false oo))) <| sgN hK8 <| cond_false kj <| wp_skip <| hK7 _ _ <| wp_seq_k fun K9 hK9=>QaT 11 [⟨none,[(3,none)]⟩,⟨none,[(3,none)]⟩,⟨none,[(33,some 1)]⟩,⟨none,[(34,some 2)]⟩,⟨none,[(32,some 0),(35,some 3)]⟩,⟨none,[(3,none)]⟩,⟨none,[(3,none)]⟩,⟨none,[(38,some 6)]⟩,⟨none,[(39,some 7)]⟩,⟨none,[(37,some 5),(40,some 8)]⟩,⟨none,[(36,some 4)]⟩] kj kj fun F hF=>Qa2 (Qam _) (.slice a_t sl.length c_t) kj kj (fun _=>kj) ?_
  refine Qa2 (Qam _) (.slice a_t sl.length c_t) kj kj (fun _=>kj) <| Qa2 (Qam _) (.int .i64 (sl.length:Int)) kj kj (fun _=>kj) <| Qa2 (Qam _) (.int .i64 ((sl.length-16:Nat):Int)) kj kj (fun W=>(Qac (u:=.int .i64 (zal.wrap ((sl.length:Int)-16))) kj (congrArg (zam .i64) (Qhd _ hsh htm)))) <| Qa2 (Qam _) (.slice a_t (sl.length-16) c_t) kj kj (fun W=>(QiO (len:=sl.length) 41 _ _ (sl.length-16) 5 rfl kj kj kj .i64 kj (qT (za8 _ _) ctk))) <| Qa2 (Qam _) (.slice a_t sl.length c_t) kj kj (fun _=>kj) <| Qa2 (Qam _) (.slice a_t sl.length c_t) kj kj (fun _=>kj) <| Qa2 (Qam _) (.int .i64 (sl.length:Int)) kj kj (fun _=>kj) <| Qa2 (Qam _) (.int .i64 ((sl.length-16:Nat):Int)) kj kj (fun W=>(Qac (u:=.int .i64 (zal.wrap ((sl.length:Int)-16))) kj (congrArg (zam .i64) (Qhd _ hsh htm)))) <| Qa2 (Qam _) (.slice (Qfd a_t c_t (sl.length-16)) (sl.length-(sl.length-16)) (c_t-(sl.length-16))) kj kj (fun W=>(Qel 41 _ _ (sl.length-16) 5 rfl kj kj kj .i64 kj (za8 _ _) ctk)) <| Qa2 (Qam _) (.slice a_t (sl.length-16) c_t) kj kj (fun _=>kj) ?_
  refine Qc3 (hF _ fun W2 e2=>?_)
  simp only [zap,zaq,zar,zas,zat,zau,finE,up]
  clear hF
  have x2:=zbL (zbL (zbH w) e1) e2
  refine sg 1 kj <| sgN hK9 <| sgC fun K10 hK10=>?_
  have r4_2:=(Qaa r4_1 e2)
  refine sv (.agg (ints .u8 (key))) 43 (Qae 74 _ g4 74 _ _ r4_2 rfl kj kj (isz (n:=32) kj (izT hkl))) <| sg 3 kj ?_
  have r2_2:=(Qaa (Qaa hh e1) e2)
  have r1_2:=(Qaa (Qaa hq e1) e2)
  refine Qao (.tuple #[.agg (ints .u8 (Qdy key nonce ctx (sl.take (sl.length-16)))),.nilIface]) 39 #[.agg (ints .u8 (key)),.slice a_n nonce.length c_n,.slice a_c ctx.length c_c,.slice a_t (sl.length-16) c_t] 47 rfl kj kj ((Qki key nonce ctx (sl.take (sl.length-16)) _ _ _ _ _ _ th tq _ r2_2 r1_2 hkl (zbQ hn x2) (zbQ hc x2) (QhX (zbQ ht x2) (sl.length-16) (za8 _ _)) h hcb (Qbg htb _) oo oo)) fun W3 e3=>?_
  have x3:=zbL x2 e3
  refine sg 3 kj <| Qah (ints .u8 (zaj 16 0)) 102 12 rfl kj kj fun g11 W4 l11 e4 r11_4=>Qag g11 _ (ints .u8 (Qdy key nonce ctx (sl.take (sl.length-16)))) 102 r11_4 rfl kj (Qaf 102 _ _ g11 102 _ _ r11_4 rfl kj kj (isz (n:=16) kj (izT (QbD _ _ _ _))) (eqsz (n:=16) (izT (qZ (n:=16))) (izT (QbD _ _ _ _))) (Qat _ _)) fun W5 p5 r11_5=>?_
  have x5:=zbK p5 (zbL x3 e4) (qT x3.size l11)
  refine sg 1 kj <| sgN hK10 <| wp_seq_k fun K12 hK12=>sgB kj <| cond_false kj <| wp_skip <| hK12 _ _ <| wp_seq_k fun K14 hK14=>sgC fun K15 hK15=>sg 2 kj ?_
  refine Qao (.bool true) 44 #[.slice (some ⟨g11,0,none⟩) 16 16,.slice (Qfd a_t c_t (sl.length-16)) (sl.length-(sl.length-16)) (c_t-(sl.length-16))] 55 rfl kj kj ((Qlj (Qdy key nonce ctx (sl.take (sl.length-16))) (sl.drop (sl.length-16)) _ _ W5.heap.size _ W5 hne (QaL (xs:=Qdy key nonce ctx (sl.take (sl.length-16))) (n:=16) (QbD _ _ _ _) r11_5 (Qaq r11_5) (show 16≤maxLen from by decide)) (Qgd (zbQ ht x5) (sl.length-16) (za8 _ _)) (Qfy _ _ _ _) (QbC htb _) (by rw [za9,QbD]; omega) (by rw [QbD]; decide))) fun W6 e6=>?_
  have x6:=zbL x5 e6
  refine sg 1 kj <| sgN hK15 <| cond_false kj <| wp_skip <| hK14 _ _ <| sgC fun K16 hK16=>?_
  have r4_3:=(Qaa r4_2 e3)
  refine sv (.agg (ints .u8 (key))) 58 (Qae 74 _ g4 74 _ _ (Qaa (rpn p5 r4_3 e4 l11) e6) rfl kj kj (isz (n:=32) kj (izT hkl))) <| sg 2 kj ?_
  have r2_3:=(Qaa r2_2 e3)
  have r1_3:=(Qaa r1_2 e3)
  refine Qau (fun v W'=>(MixR W6.heap.size (fm)) v W'∧Ext W6 W') 38 #[.agg (ints .u8 (key)),.slice a_n nonce.length c_n,.int .i64 1,.slice a_t (sl.length-16) c_t] 61 rfl kj kj ((MixE key nonce (sl.take (sl.length-16)) (fm) _ _ _ _ th tq _ (Qaa (rpn p5 r2_3 e4 l11) e6) (Qaa (rpn p5 r1_3 e4 l11) e6) hkl (zbQ hn x6) (QhX (zbQ ht x6) (sl.length-16) (za8 _ _)) h oo em).mono mo1) fun vv17 W7 hh17=>?_
  obtain ⟨hv17,e7⟩:=hh17
  obtain ⟨u61_,rfl,hu61_⟩:=hv17
  refine sg 4 kj <| sgN hK16 <| wp_ret ?_
  with_reducible repeat first | refine goR1 ?_ | refine goR2 ?_
  exact (show bodyPost _ _ _ .ret _ _ from ret2 (u61_) (.nilIface) rfl (Qax kj) (Qax kj) ⟨_,rfl,(zbL x6 e7),u61_,rfl,by rw [em]; exact OwnN.base x6.size hu61_⟩)
end Ae
end
section
namespace Sha
open Go Go.RowKit
open Rely Auto Own
theorem QkY (n : Nat) (h0:0<n) (hn:n<32):zaA.wrap (-(n:Int))=18446744073709551616-(n:Int):=by
  have:zaA.wrap (-(n:Int))=(-(n:Int))%2^64:=rfl
  rw [this]; omega
theorem QpK : ∀ n:Nat,0<n→n<32→bits .and .u64 (18446744073709551616-(n:Int)) 31=((32-n:Nat):Int):=by
  have h:∀ n:Fin 32,0<n.1→bits .and .u64 (18446744073709551616-(n.1:Int)) 31=((32-n.1:Nat):Int):=by decide
  intro n h0 hn
  exact h ⟨n,hn⟩ h0
theorem QnZ (n : Nat) (hn:n<32):zaA.wrap (32-((32-n:Nat):Int))=(n:Int):=by
  have:∀ z:Int,zaA.wrap z=z%2^64:=fun _=>rfl
  rw [this]; omega
theorem rotC (x : Wd) (n:Nat) (m:Int) (hm:m=-(n:Int)) (h0:0<n) (hn:n<32) (w:World):Calls Tryz.prog 93 #[.int .u32 (wv x),.int .i64 m] w (Ret w (.int .u32 (wv (rr x n)))):=by
  refine enter 17 [(0,.int .u32 (wv x)),(1,.int .i64 m)] Tryz.func93 rfl rfl kj rfl <| sgB kj <| sgC fun K2 hK2=>sg 1 kj <| sv (.int .u64 (18446744073709551616-(n:Int))) 7 (Qac (u:=.int .u64 (zaA.wrap (m))) kj (congrArg (zam .u64) (by rw [hm]; exact QkY n h0 hn))) ?_
  refine sv (.int .u64 ((32-n:Nat):Int)) 8 (Qac (u:=.int .u64 (bits .and .u64 ((18446744073709551616-(n:Int))) (31))) kj (congrArg (zam .u64) (QpK n h0 hn))) <| sg 1 kj <| sgN hK2 <| sgC fun K3 hK3=>sg 2 kj <| sv (.int .u32 (wv (x<<<(32-n)))) 11 (QaO .shl _ _ _ _ .u32 .u64 _ _ _ rfl kj kj (Qef _ _ _ _ _ _ oo (Qhm x _ (32-n) rfl oo))) <| sg 2 kj <| sv (.int .u64 ((n:Int))) 14 (Qac (u:=.int .u64 (zaA.wrap (32-((32-n:Nat):Int)))) kj (congrArg (zam .u64) (QnZ n hn))) <| sv (.int .u32 (wv (x>>>n))) 15 (QaO .shr _ _ _ _ .u32 .u64 _ _ _ rfl kj kj (Qcd _ _ _ _ _ _ oo (Qf2 x _ n rfl oo))) <| sv (.int .u32 (wv (((x<<<(32-n)))|||((x>>>n))))) 16 (Qac kj (congrArg (zam .u32) (w_or _ _))) ?_
  refine sg 1 kj <| sgN hK3 <| wp_ret ?_
  with_reducible repeat first | refine goR1 ?_ | refine goR2 ?_
  exact (show bodyPost _ _ _ .ret _ _ from ret1 (.int .u32 (wv (((x<<<(32-n)))|||((x>>>n))))) rfl (Qax kj) ⟨rfl,(zbH w)⟩)
theorem QmB (n : Nat) (hn:n<32):zaA.wrap (32-(n:Int))=((32-n:Nat):Int):=by
  have:∀ z:Int,zaA.wrap z=z%2^64:=fun _=>rfl
  rw [this]; omega
theorem turnC (x : Wd) (n:Nat) (m:Int) (hm:m=(n:Int)) (h0:0<n) (hn:n<32) (w:World):Calls Tryz.prog 101 #[.int .u32 (wv x),.int .u64 m] w (Ret w (.int .u32 (wv (rr x n)))):=by
  subst hm
  refine enter 13 [(0,.int .u32 (wv x)),(1,.int .u64 (n:Int))] Tryz.func101 rfl rfl kj rfl <| sgB kj <| sgC fun K2 hK2=>sg 2 kj <| sv (.int .u32 (wv (x>>>n))) 7 (QaO .shr _ _ _ _ .u32 .u64 _ _ _ rfl kj kj (Qcd _ _ _ _ _ _ oo (Qf2 x _ n rfl oo))) <| sg 2 kj <| sv (.int .u64 ((32-n:Nat):Int)) 10 (Qac (u:=.int .u64 (zaA.wrap (32-(n:Int)))) kj (congrArg (zam .u64) (QmB n hn))) <| sv (.int .u32 (wv (x<<<(32-n)))) 11 (QaO .shl _ _ _ _ .u32 .u64 _ _ _ rfl kj kj (Qef _ _ _ _ _ _ oo (Qhm x _ (32-n) rfl oo))) <| sv (.int .u32 (wv (((x>>>n))+((x<<<(32-n)))))) 12 (Qac kj (congrArg (zam .u32) (Qcm _ _))) <| sg 1 kj ?_
  refine sgN hK2 <| wp_ret ?_
  with_reducible repeat first | refine goR1 ?_ | refine goR2 ?_
  exact (show bodyPost _ _ _ .ret _ _ from ret1 (.int .u32 (wv (((x>>>n))+((x<<<(32-n)))))) rfl (Qax kj) ⟨congrArg (fun z=>Ending.returned (.int .u32 (wv z))) (QnU x n h0 hn),(zbH w)⟩)
theorem Qdq (ws : List Wd) (n:Nat):(wmore ws n).length=ws.length+n:=by
  induction n with
  | zero=>rfl
  | succ n ih=>simp [wmore,ih]; omega
theorem Qhn (b : List Int):(w16 b).length=16:=by simp [w16]
theorem Qcq (b : List Int):(w64 b).length=64:=by rw [w64,Qdq,Qhn]
theorem QeU (ws : List Wd) (n m j:Nat) (hj:j<ws.length+n) (hm:n≤m):wget (wmore ws m) j=wget (wmore ws n) j:=by
  induction m with
  | zero =>
    obtain rfl:n=0:=by omega
    rfl
  | succ m ih =>
    rcases Nat.lt_or_ge m n with h | h
    · obtain rfl:n=m+1:=by omega
      rfl
    · rw [←ih h]
      show wget (wmore ws m++_) j=_
      unfold wget
      rw [zac,List.getElem?_append_left (by rw [Qdq]; omega),←zac]
theorem QiC (ws : List Wd) (n:Nat):wget (wmore ws (n+1)) (ws.length+n)=wnext (wmore ws n):=by
  show wget (wmore ws n++[_]) _=_
  unfold wget
  rw [zac,List.getElem?_append_right (by rw [Qdq]; omega),Qdq,zaB]
  rfl
theorem QhL (b : List Int) (i:Nat) (h:16≤i) (hi:i<64):wget (w64 b) i=sig1 (wget (w64 b) (i-2))+wget (w64 b) (i-7)+sig0 (wget (w64 b) (i-15))+wget (w64 b) (i-16):=by
  obtain ⟨n,rfl⟩:∃ n,i=16+n:=⟨i-16,by omega⟩
  have hl:=Qhn b
  have g:∀ j,j<16+n→wget (w64 b) j=wget (wmore (w16 b) n) j:=fun j hj=>QeU (w16 b) n 48 j oo oo
  have g1:wget (w64 b) (16+n)=wget (wmore (w16 b) (n+1)) (16+n):=QeU (w16 b) (n+1) 48 _ oo oo
  rw [g1,g _ oo,g _ oo,g _ oo,g _ oo]
  have h2:=QiC (w16 b) n
  rw [hl] at h2
  rw [h2]
  unfold wnext
  rw [Qdq,hl]
theorem Qjy (b : List Int) (i:Nat) (hi:i<16):wget (w64 b) i=be4 (nth b (4*i)) (nth b (4*i+1)) (nth b (4*i+2)) (nth b (4*i+3)):=by
  have g1:wget (w64 b) i=wget (w16 b) i:=QeU (w16 b) 0 48 i (by rw [Qhn]; omega) oo
  rw [g1]
  unfold wget w16
  rw [zac,zad,zae hi]
  rfl
def hor (b : List Int) (i:Nat):Nat→Wd
  | 0=>0
  | j+1=>hor b i j<<<8|||zag 32 (nth b (4*i+j))
theorem QlL {b : List Int} (hb:Qak b) (i j:Nat):hor b i j<<<8|||zag 32 (nth b (4*i+j))=hor b i (j+1):=rfl
theorem Qgj (x : Wd) (n:Int) (h:0≤n∧n≤255):x<<<8|||zag 32 n=zag 32 (wv x*256+n):=by
  have e:x<<<8|||zag 32 n=x<<<8+zag 32 n:=by
    refine (BitVec.add_eq_or_of_and_eq_zero _ _ ?_).symm
    apply BitVec.eq_of_getLsbD_eq
    intro i hi
    simp only [BitVec.getLsbD_and,BitVec.getLsbD_shiftLeft,BitVec.getLsbD_zero]
    rcases Nat.lt_or_ge i 8 with h1 | h1
    · simp [h1]
    · have:(zag 32 n).getLsbD i=false:=by
        have hn:(zag 32 n).toNat<2^i:=by
          have e:(zag 32 n).toNat=n.toNat:=by rw [zah]; omega
          rw [e]
          have:2^8≤2^i:=Nat.pow_le_pow_right dd h1
          omega
        exact BitVec.testBit_toNat _▸Nat.testBit_lt_two_pow hn
      rw [this,Bool.and_false]
  rw [e]
  apply zaC
  rw [BitVec.toNat_add,BitVec.toNat_shiftLeft,Nat.shiftLeft_eq,zah,zah]
  unfold wv
  have:=x.isLt
  omega
theorem hor4 {b : List Int} (hb:Qak b) (i:Nat):hor b i 4=be4 (nth b (4*i)) (nth b (4*i+1)) (nth b (4*i+2)) (nth b (4*i+3)):=by
  have h0:=hb.nth (4*i)
  have h1:=hb.nth (4*i+1)
  have h2:=hb.nth (4*i+2)
  have h3:=hb.nth (4*i+3)
  show ((((0:Wd)<<<8|||zag 32 (nth b (4*i+0)))<<<8|||zag 32 (nth b (4*i+1)))<<<8|||zag 32 (nth b (4*i+2)))<<<8|||zag 32 (nth b (4*i+3))=_
  rw [zaD,Qgj _ _ h3,Qgj _ _ h2,Qgj _ _ h1,Qgj _ _ h0]
  unfold be4
  apply zaC
  rw [zah,zah]
  simp only [QdN]
  have:wv 0=0:=rfl
  rw [this]
  omega
theorem QpH {b : List Int} (hb:Qak b) (i:Nat):zaE.wrap (nth b i)=wv (zag 32 (nth b i)):=by rw [wrap32,QdN]
theorem QkA {b : List Int} {i:Nat} (h:((w64 b).map wv).length=64) (hi:i<64):fill ((w64 b).map wv) 64 i=(fill ((w64 b).map wv) 64 i).set i (wv (hor b i 0)):=by
  have e:nth (fill ((w64 b).map wv) 64 i) i=0:=Qk8 h (qR _)
  have h0:wv (hor b i 0)=nth (fill ((w64 b).map wv) 64 i) i:=by rw [e]; rfl
  rw [h0]
  have hl:i<(fill ((w64 b).map wv) 64 i).length:=by rw [Qb4 h oo]; exact hi
  rw [show nth (fill ((w64 b).map wv) 64 i) i=(fill ((w64 b).map wv) 64 i)[i] by simp [nth,hl],List.set_getElem_self]
theorem Qk9 {b : List Int} {i:Nat} (h:((w64 b).map wv).length=64) (hi:i<16) (hb:Qak b):(fill ((w64 b).map wv) 64 i).set i (wv (hor b i 4))=fill ((w64 b).map wv) 64 (i+1):=by
  rw [←Qcl h oo,QbJ,hor4 hb,Qjy b i hi]
theorem QmG (b : List Int) (hbl:b.length=64) (hbb:Qak b) (w:World):Calls Tryz.prog 112 #[.agg (ints .u8 b)] w (Ret w (.agg (ints .u32 ((w64 b).map wv)))):=by
 refine enter 81 [(0,.agg (ints .u8 (b)))] Tryz.func112 rfl rfl kj rfl <| sgC fun K1 hK1=>Qah (ints .u8 (b)) 120 1 rfl kj kj fun g2 W1 l2 e1 r2_1=>?_
 have x1:=zbL (zbH w) e1
 have b2:=qT (zbH w).size l2
 refine Qah (ints .u32 (zaj 64 0)) 198 2 rfl kj kj fun g3 W2 l3 e2 r3_2=>?_
 have x2:=zbL x1 e2
 refine sgN hK1 <| sgC fun K4 hK4=>Qah (ints .u32 (zaj 64 0)) 198 3 rfl kj kj fun g5 W3 l5 e3 r5_3=>?_
 have b5:=qT x2.size l5
 refine sgN hK4 <| wp_seq_k fun K6 hK6=>sgB kj <| wp_block ?_
 have hl64:((w64 b).map wv).length=64:=by rw [zaF,Qcq]
 refine Qa3 (fun (s1:Nat)=>[(12,.int .i64 (s1:Int)),(1,pp g2 0),(2,pp g3 0),(3,pp g5 0)]) (fun (s1:Nat) W=>(s1≤16)∧(W.heap[g5]? = some (.cells (ints .u32 (fill ((w64 b).map wv) 64 s1)) 198))∧(Qai [g5] W3 W)∧(Ext w W)) (fun (s1:Nat)=>16-s1) 0 ⟨kj,kj,kj,kj,trivial⟩ ⟨(zak _),(Qa9 r5_3 (QcE _ 64).symm),(zbS [g5] W3),(zbL x2 e3)⟩ fun s1 X1 V1 hI1=>?_
 obtain ⟨i,hs1⟩:∃ z,z=s1:=⟨_,rfl⟩
 subst hs1
 obtain ⟨hi,q5_1,kk1,xx1⟩:=hI1
 replace hi:i≤16:=hi
 replace q5_1:V1.heap[g5]? = some (.cells (ints .u32 (fill ((w64 b).map wv) 64 i)) 198):=q5_1
 replace kk1:Qai [g5] W3 V1:=kk1
 replace xx1:Ext w V1:=xx1
 have q4:=kk1
 refine sgB kj <| wp_seq_k fun K9 hK9=>Qay (t:=decide ((i:Int)<16)) kj (fun c10=>?_) (fun c10=>?_)
 ·skip
  have hlt13:i<16:=by have:=of_decide_eq_true c10; omega
  refine wp_skip <| hK9 _ _ <| wp_seq_k fun K11 hK11=>wp_block <| sgB kj <| sgC fun K13 hK13=>sg 1 kj <| sv (.int .i64 ((4*i:Nat):Int)) 16 (Qac (u:=.int .i64 (zal.wrap (4*(i:Int)))) kj (congrArg (zam .i64) (i64n _ _ oo oo))) <| sg 1 kj <| sv (.int .i64 ((4*i:Nat):Int)) 18 (Qac (u:=.int .i64 (zal.wrap (4*(i:Int)))) kj (congrArg (zam .i64) (i64n _ _ oo oo))) ?_
  refine sv (.int .i64 (((4*i)+4:Nat):Int)) 19 (Qac (u:=.int .i64 (zal.wrap (((4*i:Nat):Int)+4))) kj (congrArg (zam .i64) (i64n _ _ oo oo))) <| sv (.slice (some ⟨g2,0+(4*i),none⟩) (((4*i)+4)-(4*i)) (64-(4*i))) 20 (QbA 120 _ _ _ (4*i) ((4*i)+4) 64 g2 0 5 rfl kj kj kj ⟨.i64,by kernel_rfl⟩ ⟨.i64,by kernel_rfl⟩ oo oo oo) <| sg 2 kj <| sgN hK13 <| wp_block <| Qa3 (fun (s2:Nat)=>[(4,.int .i64 (i:Int)),(12,.int .i64 (i:Int)),(20,.slice (some ⟨g2,0+(4*i),none⟩) (((4*i)+4)-(4*i)) (64-(4*i))),(21,.int .i64 ((((4*i)+4)-(4*i):Nat):Int)),(22,.int .i64 (s2:Int)),(1,pp g2 0),(2,pp g3 0),(3,pp g5 0)]) (fun (s2:Nat) W=>(s2≤4)∧(W.heap[g5]? = some (.cells (ints .u32 ((fill ((w64 b).map wv) 64 i).set i (wv (hor b i s2)))) 198))∧(Qai [g5] V1 W)∧(Ext w W)) (fun (s2:Nat)=>4-s2) 0 ⟨kj,kj,kj,kj,kj,kj,kj,kj,trivial⟩ ⟨(zak _),(Qa9 q5_1 (QkA hl64 oo)),(zbS [g5] V1),xx1⟩ fun s2 X2 V2 hI2=>?_
  obtain ⟨j,hs2⟩:∃ z,z=s2:=⟨_,rfl⟩
  subst hs2
  obtain ⟨hj,q5_2,kk2,xx2⟩:=hI2
  replace hj:j≤4:=hj
  replace q5_2:V2.heap[g5]? = some (.cells (ints .u32 ((fill ((w64 b).map wv) 64 i).set i (wv (hor b i j)))) 198):=q5_2
  replace kk2:Qai [g5] V1 V2:=kk2
  replace xx2:Ext w V2:=xx2
  have q5:=kk2
  refine sgB kj <| wp_seq_k fun K15 hK15=>Qay (t:=decide ((j:Int)<((((4*i)+4)-(4*i):Nat):Int))) kj (fun c16=>?_) (fun c16=>?_)
  ·skip
   have hlt23:j<4:=by have:=of_decide_eq_true c16; omega
   refine wp_skip <| hK15 _ _ <| wp_seq_k fun K17 hK17=>wp_block <| sgC fun K18 hK18=>sv (pp g2 (0+(4*i)+j)) 24 (Qct 41 _ _ .i64 j g2 (0+(4*i)) (((4*i)+4)-(4*i)) (64-(4*i)) 5 rfl kj kj kj kj oo) ?_
   have r2_2:=(Qaa r2_1 e2)
   refine sv (.int .u8 (nth b (4*i+j))) 25 (Qab 5 _ g2 (0+(4*i)+j) 120 _ (.int .u8 (nth b (4*i+j))) _ (zbT q5 (zbT q4 (Qaa r2_2 e3) (Qaw (Qad r2_2 l5) QaF)) (Qaw (Qad r2_2 l5) QaF)) rfl kj ((QaD _ _ _ (zan oo hbl.symm)).trans (congrArg (fun z=>some (zam .u8 z)) (by rw [za3]))) kj) <| sg 1 kj <| sgN hK18 <| Qaj <| sg 2 kj <| sv (pp g5 i) 28 (Qa7 _ _ _ .i64 (i) _ 64 139 rfl kj kj kj kj oo) <| sv (.int .u32 (wv (hor b i j))) 29 (Qab 139 _ g5 i 198 _ (.int .u32 (wv (hor b i j))) _ q5_2 rfl kj ((QaD _ _ _ (zan oo ((zaG ..).trans (Qb4 hl64 oo)).symm)).trans (congrArg (fun z=>some (zam .u32 z)) (QgR (by rw [Qb4 hl64 oo]; omega)))) kj) ?_
   refine sv (.int .u32 (wv (hor b i j<<<8))) 30 (QaO .shl _ _ _ _ .u32 .u64 _ _ _ rfl kj kj (Qef _ _ _ _ _ _ dd (Qhm _ _ 8 rfl dd))) <| sg 1 kj <| sv (.int .u32 (wv (zag 32 (nth b (4*i+j))))) 32 (Qac (u:=.int .u32 (zaE.wrap (nth b (4*i+j)))) kj (congrArg (zam .u32) (QpH hbb _))) <| sv (.int .u32 (wv (((hor b i j<<<8))|||((zag 32 (nth b (4*i+j))))))) 33 (Qac kj (congrArg (zam .u32) (w_or _ _))) <| sv (pp g5 i) 34 (Qa7 _ _ _ .i64 (i) _ 64 139 rfl kj kj kj kj oo) <| Qag g5 _ (ints .u32 (((fill ((w64 b).map wv) 64 i).set i (wv (hor b i j))).set i (wv (((hor b i j<<<8))|||((zag 32 (nth b (4*i+j)))))))) 198 q5_2 rfl kj (Qa0 139 _ _ g5 i 198 _ _ q5_2 rfl kj kj kj (zan oo ((zaG ..).trans (Qb4 hl64 oo)).symm)) fun W6 p6 r5_6=>?_
   have x6:=zbK p6 xx2 b5
   refine Qas <| hK17 _ _ <| Qaj <| sv (.int .i64 ((j+1:Nat):Int)) 35 (Qac (u:=.int .i64 (zal.wrap ((j:Int)+1))) kj (congrArg (zam .i64) (i64n _ _ oo oo))) <| sg 1 kj <| Qas ?_
   with_reducible repeat first | refine goX1 ?_ | refine goX2 ?_ | refine goX3 ?_
   exact Qa1 (j+1) ⟨kj,kj,kj,kj,kj,kj,kj,kj,trivial⟩ ⟨oo,(Qa9 r5_6 (by rw [List.set_set]; exact congrArg (fun z=>(fill ((w64 b).map wv) 64 i).set i (wv z)) (QlL hbb i j))),(zbV q5 p6 (.inl (by simp))),x6⟩ oo
  ·skip
   have heq23:j=4:=by have:=of_decide_eq_false c16; omega
   refine wp_exit <| hK11 _ _ <| Qaj <| sv (.int .i64 ((i+1:Nat):Int)) 36 (Qac (u:=.int .i64 (zal.wrap ((i:Int)+1))) kj (congrArg (zam .i64) (i64n _ _ oo oo))) <| sg 1 kj <| Qas ?_
   with_reducible repeat first | refine goX1 ?_ | refine goX2 ?_ | refine goX3 ?_
   exact Qa1 (i+1) ⟨kj,kj,kj,kj,trivial⟩ ⟨oo,(Qa9 q5_2 (by rw [heq23]; exact Qk9 hl64 hlt13 hbb)),(Qai.keeps q4 q5 (QdE (.inl (by simp)) Qfi)),xx2⟩ oo
 ·skip
  have heq13:i=16:=by have:=of_decide_eq_false c10; omega
  refine wp_exit <| hK6 _ _ <| wp_seq_k fun K19 hK19=>sgB kj <| wp_block <| Qa3 (fun (s3:Nat)=>[(7,.int .i64 (s3:Int)),(1,pp g2 0),(2,pp g3 0),(3,pp g5 0)]) (fun (s3:Nat) W=>(16≤s3)∧(s3≤64)∧(W.heap[g5]? = some (.cells (ints .u32 (fill ((w64 b).map wv) 64 s3)) 198))∧(Qai [g5] V1 W)∧(Ext w W)) (fun (s3:Nat)=>64-s3) 16 ⟨kj,kj,kj,kj,trivial⟩ ⟨(qR _),oo,(Qa9 q5_1 (by rw [heq13])),(zbS [g5] V1),xx1⟩ fun s3 X3 V3 hI3=>?_
  obtain ⟨i,hs3⟩:∃ z,z=s3:=⟨_,rfl⟩
  subst hs3
  obtain ⟨h16,hi,q5_3,kk3,xx3⟩:=hI3
  replace h16:16≤i:=h16
  replace hi:i≤64:=hi
  replace q5_3:V3.heap[g5]? = some (.cells (ints .u32 (fill ((w64 b).map wv) 64 i)) 198):=q5_3
  replace kk3:Qai [g5] V1 V3:=kk3
  replace xx3:Ext w V3:=xx3
  have q5:=kk3
  refine wp_seq_k fun K21 hK21=>sgB kj <| Qay (t:=decide ((i:Int)<64)) kj (fun c23=>?_) (fun c23=>?_)
  ·skip
   have hlt38:i<64:=by have:=of_decide_eq_true c23; omega
   refine wp_skip <| hK21 _ _ <| wp_seq_k fun K24 hK24=>wp_block <| wp_seq_k fun K25 hK25=>Qba 9 [⟨none,[(7,none)]⟩,⟨none,[(41,some 0)]⟩,⟨none,[(3,none),(42,some 1)]⟩,⟨none,[(43,some 2)]⟩,⟨none,[(7,none)]⟩,⟨none,[(45,some 4)]⟩,⟨none,[(3,none),(46,some 5)]⟩,⟨none,[(47,some 6)]⟩,⟨none,[(44,some 3)]⟩] kj kj fun F hF=>Qar (.int .i64 (i:Int)) kj kj (fun _=>kj) <| Qar (.int .i64 ((i-2:Nat):Int)) kj kj (fun W=>(Qac (u:=.int .i64 (zal.wrap ((i:Int)-2))) kj (congrArg (zam .i64) (i64n _ _ oo oo)))) <| Qar (pp g5 (i-2)) kj kj (fun W=>(Qa7 _ _ _ .i64 (i-2) _ 64 139 rfl kj kj kj kj oo)) <| QaK (.int .u32 (wv (wget (w64 b) (i-2)))) kj kj (fun W hR=>(Qab 139 _ g5 (i-2) 198 _ (.int .u32 (wv (wget (w64 b) (i-2)))) _ (Qaa (Qaa q5_3 (Qan _)) hR) rfl kj ((QaD _ _ _ (zan oo (Qb4 (show ((w64 b).map wv).length=64 by rw [zaF,Qcq]) oo).symm)).trans (congrArg (fun z=>some (zam .u32 z)) ((QeQ hl64 oo oo).trans (QbJ _ _)))) kj)) ?_
   refine Qar (.int .i64 (i:Int)) kj kj (fun _=>kj) <| Qar (.int .i64 ((i-15:Nat):Int)) kj kj (fun W=>(Qac (u:=.int .i64 (zal.wrap ((i:Int)-15))) kj (congrArg (zam .i64) (i64n _ _ oo oo)))) <| Qar (pp g5 (i-15)) kj kj (fun W=>(Qa7 _ _ _ .i64 (i-15) _ 64 139 rfl kj kj kj kj oo)) <| QaK (.int .u32 (wv (wget (w64 b) (i-15)))) kj kj (fun W hR=>(Qab 139 _ g5 (i-15) 198 _ (.int .u32 (wv (wget (w64 b) (i-15)))) _ (Qaa (Qaa q5_3 (Qan _)) hR) rfl kj ((QaD _ _ _ (zan oo (Qb4 (show ((w64 b).map wv).length=64 by rw [zaF,Qcq]) oo).symm)).trans (congrArg (fun z=>some (zam .u32 z)) ((QeQ hl64 oo oo).trans (QbJ _ _)))) kj)) <| Qar (.int .u32 (wv (wget (w64 b) (i-2)))) kj kj (fun _=>kj) <| Qbh (hF _ kj fun W6 e6=>?_)
   simp only [ups,up,Kn.val,zar,zas,zat,zau,zap,zaq]
   clear hF
   have x6:=zbL xx3 e6
   refine sg 1 kj <| sgN hK25 <| sgC fun K26 hK26=>sg 1 kj <| Qao (.int .u32 (wv (rr (wget (w64 b) (i-2)) 17))) 93 #[.int .u32 (wv (wget (w64 b) (i-2))),.int .i64 (-17)] 50 rfl kj kj ((rotC (wget (w64 b) (i-2)) 17 (-17) dd dd dd) _) fun W7 e7=>sg 1 kj <| Qao (.int .u32 (wv (rr (wget (w64 b) (i-2)) 19))) 93 #[.int .u32 (wv (wget (w64 b) (i-2))),.int .i64 (-19)] 52 rfl kj kj ((rotC (wget (w64 b) (i-2)) 19 (-19) dd dd dd) _) fun W8 e8=>sv (.int .u32 (wv (((rr (wget (w64 b) (i-2)) 17))^^^((rr (wget (w64 b) (i-2)) 19))))) 53 (Qac kj (congrArg (zam .u32) (w_xor _ _))) <| sg 1 kj <| sv (.int .u32 (wv (((wget (w64 b) (i-2)))>>>10))) 55 (QaO .shr _ _ _ _ .u32 .u64 _ _ _ rfl kj kj (Qcd _ _ _ _ _ _ dd (Qf2 _ _ 10 rfl dd))) ?_
   refine sv (.int .u32 (wv (((((rr (wget (w64 b) (i-2)) 17))^^^((rr (wget (w64 b) (i-2)) 19))))^^^((((wget (w64 b) (i-2)))>>>10))))) 56 (Qac kj (congrArg (zam .u32) (w_xor _ _))) <| sg 1 kj <| sgN hK26 <| sgC fun K27 hK27=>sg 1 kj <| Qao (.int .u32 (wv (rr (wget (w64 b) (i-15)) 7))) 93 #[.int .u32 (wv (wget (w64 b) (i-15))),.int .i64 (-7)] 58 rfl kj kj ((rotC (wget (w64 b) (i-15)) 7 (-7) dd dd dd) _) fun W9 e9=>sg 1 kj <| Qao (.int .u32 (wv (rr (wget (w64 b) (i-15)) 18))) 93 #[.int .u32 (wv (wget (w64 b) (i-15))),.int .i64 (-18)] 60 rfl kj kj ((rotC (wget (w64 b) (i-15)) 18 (-18) dd dd dd) _) fun W10 e10=>sv (.int .u32 (wv (((rr (wget (w64 b) (i-15)) 7))^^^((rr (wget (w64 b) (i-15)) 18))))) 61 (Qac kj (congrArg (zam .u32) (w_xor _ _))) <| sg 1 kj ?_
   refine sv (.int .u32 (wv (((wget (w64 b) (i-15)))>>>3))) 63 (QaO .shr _ _ _ _ .u32 .u64 _ _ _ rfl kj kj (Qcd _ _ _ _ _ _ dd (Qf2 _ _ 3 rfl dd))) <| sv (.int .u32 (wv (((((rr (wget (w64 b) (i-15)) 7))^^^((rr (wget (w64 b) (i-15)) 18))))^^^((((wget (w64 b) (i-15)))>>>3))))) 64 (Qac kj (congrArg (zam .u32) (w_xor _ _))) <| sg 1 kj <| sgN hK27 <| Qba 15 [⟨none,[(7,none)]⟩,⟨none,[(10,none)]⟩,⟨none,[(7,none)]⟩,⟨none,[(67,some 2)]⟩,⟨none,[(3,none),(68,some 3)]⟩,⟨none,[(69,some 4)]⟩,⟨none,[(66,some 1),(70,some 5)]⟩,⟨none,[(11,none)]⟩,⟨none,[(71,some 6),(72,some 7)]⟩,⟨none,[(7,none)]⟩,⟨none,[(74,some 9)]⟩,⟨none,[(3,none),(75,some 10)]⟩,⟨none,[(76,some 11)]⟩,⟨none,[(73,some 8),(77,some 12)]⟩,⟨none,[(3,none),(65,some 0)]⟩] kj kj fun F hF=>Qar (.int .i64 (i:Int)) kj kj (fun _=>kj) <| Qar (.int .u32 (wv (((((rr (wget (w64 b) (i-2)) 17))^^^((rr (wget (w64 b) (i-2)) 19))))^^^((((wget (w64 b) (i-2)))>>>10))))) kj kj (fun _=>kj) <| Qar (.int .i64 (i:Int)) kj kj (fun _=>kj) <| Qar (.int .i64 ((i-7:Nat):Int)) kj kj (fun W=>(Qac (u:=.int .i64 (zal.wrap ((i:Int)-7))) kj (congrArg (zam .i64) (i64n _ _ oo oo)))) <| Qar (pp g5 (i-7)) kj kj (fun W=>(Qa7 _ _ _ .i64 (i-7) _ 64 139 rfl kj kj kj kj oo)) ?_
   have r5_6:=(Qaa q5_3 e6)
   have r5_10:=(Qaa (Qaa (Qaa (Qaa r5_6 e7) e8) e9) e10)
   refine QaK (.int .u32 (wv (wget (w64 b) (i-7)))) kj kj (fun W hR=>(Qab 139 _ g5 (i-7) 198 _ (.int .u32 (wv (wget (w64 b) (i-7)))) _ (Qaa (Qaa r5_10 (Qan _)) hR) rfl kj ((QaD _ _ _ (zan oo (Qb4 (show ((w64 b).map wv).length=64 by rw [zaF,Qcq]) oo).symm)).trans (congrArg (fun z=>some (zam .u32 z)) ((QeQ hl64 oo oo).trans (QbJ _ _)))) kj)) <| Qar (.int .u32 (wv (((((((rr (wget (w64 b) (i-2)) 17))^^^((rr (wget (w64 b) (i-2)) 19))))^^^((((wget (w64 b) (i-2)))>>>10))))+((wget (w64 b) (i-7)))))) kj kj (fun W=>(Qac kj (congrArg (zam .u32) (Qcm _ _)))) <| Qar (.int .u32 (wv (((((rr (wget (w64 b) (i-15)) 7))^^^((rr (wget (w64 b) (i-15)) 18))))^^^((((wget (w64 b) (i-15)))>>>3))))) kj kj (fun _=>kj) <| Qar (.int .u32 (wv (((((((((rr (wget (w64 b) (i-2)) 17))^^^((rr (wget (w64 b) (i-2)) 19))))^^^((((wget (w64 b) (i-2)))>>>10))))+((wget (w64 b) (i-7)))))+((((((rr (wget (w64 b) (i-15)) 7))^^^((rr (wget (w64 b) (i-15)) 18))))^^^((((wget (w64 b) (i-15)))>>>3))))))) kj kj (fun W=>(Qac kj (congrArg (zam .u32) (Qcm _ _)))) <| Qar (.int .i64 (i:Int)) kj kj (fun _=>kj) <| Qar (.int .i64 ((i-16:Nat):Int)) kj kj (fun W=>(Qac (u:=.int .i64 (zal.wrap ((i:Int)-16))) kj (congrArg (zam .i64) (i64n _ _ oo oo)))) <| Qar (pp g5 (i-16)) kj kj (fun W=>(Qa7 _ _ _ .i64 (i-16) _ 64 139 rfl kj kj kj kj oo)) <| QaK (.int .u32 (wv (wget (w64 b) (i-16)))) kj kj (fun W hR=>(Qab 139 _ g5 (i-16) 198 _ (.int .u32 (wv (wget (w64 b) (i-16)))) _ (Qaa (Qaa r5_10 (Qan _)) hR) rfl kj ((QaD _ _ _ (zan oo (Qb4 (show ((w64 b).map wv).length=64 by rw [zaF,Qcq]) oo).symm)).trans (congrArg (fun z=>some (zam .u32 z)) ((QeQ hl64 oo oo).trans (QbJ _ _)))) kj)) <| Qar (.int .u32 (wv (((((((((((rr (wget (w64 b) (i-2)) 17))^^^((rr (wget (w64 b) (i-2)) 19))))^^^((((wget (w64 b) (i-2)))>>>10))))+((wget (w64 b) (i-7)))))+((((((rr (wget (w64 b) (i-15)) 7))^^^((rr (wget (w64 b) (i-15)) 18))))^^^((((wget (w64 b) (i-15)))>>>3))))))+((wget (w64 b) (i-16)))))) kj kj (fun W=>(Qac kj (congrArg (zam .u32) (Qcm _ _)))) <| Qar (pp g5 i) kj kj (fun W=>(Qa7 _ _ _ .i64 (i) _ 64 139 rfl kj kj kj kj oo)) ?_
   refine Qbh (hF _ kj fun W11 e11=>?_)
   simp only [ups,up,Kn.val,zar,zas,zat,zau,zap,zaq]
   clear hF
   have r5_11:=(Qaa r5_10 e11)
   refine Qag g5 _ (ints .u32 ((fill ((w64 b).map wv) 64 i).set i (wv (((((((((((rr (wget (w64 b) (i-2)) 17))^^^((rr (wget (w64 b) (i-2)) 19))))^^^((((wget (w64 b) (i-2)))>>>10))))+((wget (w64 b) (i-7)))))+((((((rr (wget (w64 b) (i-15)) 7))^^^((rr (wget (w64 b) (i-15)) 18))))^^^((((wget (w64 b) (i-15)))>>>3))))))+((wget (w64 b) (i-16))))))) 198 r5_11 rfl kj (Qa0 139 _ _ g5 i 198 _ _ r5_11 rfl kj kj kj (zan oo (Qb4 (show ((w64 b).map wv).length=64 by rw [zaF,Qcq]) oo).symm)) fun W12 p12 r5_12=>Qas <| hK24 _ _ <| Qaj <| sg 1 kj <| sv (.int .i64 ((i+1:Nat):Int)) 40 (Qac (u:=.int .i64 (zal.wrap ((i:Int)+1))) kj (congrArg (zam .i64) (i64n _ _ oo oo))) <| sg 1 kj <| Qas ?_
   with_reducible repeat first | refine goX1 ?_ | refine goX2 ?_ | refine goX3 ?_
   exact Qa1 (i+1) ⟨kj,kj,kj,kj,trivial⟩ ⟨oo,oo,(Qa9 r5_12 (by rw [←Qcl hl64 hlt38,QbJ,QhL b i h16 hlt38]; rfl)),(zbV (zbU (zbU (zbU (zbU (zbU (zbU q5 e6) e7) e8) e9) e10) e11) p12 (.inl (by simp))),(zbK p12 (zbL (zbL (zbL (zbL (zbL x6 e7) e8) e9) e10) e11) b5)⟩ oo
  ·skip
   have heq38:i=64:=by have:=of_decide_eq_false c23; omega
   have r5_5_28:V3.heap[g5]? = some (.cells (ints .u32 ((w64 b).map wv)) 198):=Qa9 q5_3 (by rw [heq38]; exact QcF hl64)
   refine wp_exit <| hK19 _ _ <| sgC fun K29 hK29=>sv (.agg (ints .u32 ((w64 b).map wv))) 80 (Qae 198 _ g5 198 _ _ r5_5_28 rfl kj kj (isz (n:=64) kj (izT hl64))) ?_
   have r3_5:=(zbT q5 (zbT q4 (Qaa r3_2 e3) (Qaw (Qad r3_2 l5) QaF)) (Qaw (Qad r3_2 l5) QaF))
   refine Qag g3 _ (ints .u32 ((w64 b).map wv)) 198 r3_5 rfl kj (Qaf 198 _ _ g3 198 _ _ r3_5 rfl kj kj (isz (n:=64) kj (izT hl64)) (eqsz (n:=64) (izT (qZ (n:=64))) (izT hl64)) (Qat _ _)) fun W6 p6 r3_6=>?_
   have x6:=zbK p6 xx3 (qT x1.size l3)
   refine sgN hK29 <| wp_ret ?_
   with_reducible repeat first | refine goR1 ?_ | refine goR2 ?_
   exact (show bodyPost _ _ _ .ret _ _ from ret1 (.agg (ints .u32 ((w64 b).map wv))) rfl (QaJ g3 198 _ r3_6 kj kj (isz (n:=64) kj (izT hl64))) ⟨rfl,x6⟩)
end Sha
end
section
namespace Sha
open Go Go.RowKit
open Rely Auto Own
def QaM : List Int:=Qm3.map Int.ofNat
def Qa5 : List Int:=[0x6a09e667f3bcc908,0xbb67ae8584caa73b,0x3c6ef372fe94f82b,0xa54ff53a5f1d36f1,0x510e527fade682d1,0x9b05688c2b3e6c1f,0x1f83d9abfb41bd6b,0x5be0cd19137e2179]
theorem Qm4 (i : Nat) (h:i<64):zaE.wrap (nth QaM i/4294967296)=wv (wget KK i):=by
  have:∀ i:Fin 64,zaE.wrap (nth QaM i.1/4294967296)=wv (wget KK i.1):=by decide +kernel
  exact this ⟨i,h⟩
theorem Qod (n : Int):n.fdiv (2^min (32:Int).toNat zaA.bits)=n/4294967296:=zaH n dd
def mixW (p q:List Wd) (i:Nat):List Wd:=(List.zipWith (· + ·) p q).take i++p.drop i
theorem Qgo (s r:S8) {i:Nat} (hi:i≤8):((mixW s.l r.l i).map wv).length=8:=by
  rcases (show i=0∨i=1∨i=2∨i=3∨i=4∨i=5∨i=6∨i=7∨i=8 by omega) with rfl | rfl | rfl | rfl | rfl | rfl | rfl | rfl | rfl <;> rfl
theorem Qkg (s r:S8) {i:Nat} (hi:i<8):nth ((mixW s.l r.l i).map wv) i=wv (wget s.l i):=by
  rcases (show i=0∨i=1∨i=2∨i=3∨i=4∨i=5∨i=6∨i=7 by omega) with rfl | rfl | rfl | rfl | rfl | rfl | rfl | rfl <;> rfl
theorem Qkf (s r:S8) {i:Nat} (hi:i<8):((mixW s.l r.l i).map wv).set i (wv (wget s.l i+wget r.l i))=(mixW s.l r.l (i+1)).map wv:=by
  rcases (show i=0∨i=1∨i=2∨i=3∨i=4∨i=5∨i=6∨i=7 by omega) with rfl | rfl | rfl | rfl | rfl | rfl | rfl | rfl <;> rfl
theorem Qph (g : Nat) (s:S8) (b:List Int) (hbl:b.length=64) (hbb:Qak b) (m:Int) (tc:TypeId) (w:World) (hc:w.heap[4]? = some (.cells (ints .u64 QaM) tc)) (hg:w.heap[g]? = some (.cells (cat [ints .u32 ([wv s.a,wv s.b,wv s.c,wv s.d,wv s.e,wv s.f,wv s.g,wv s.h]),ints .u8 (b),#[.int .i64 m]]) 195)) :
  Calls Tryz.prog 110 #[pp g 0] w (fun e W=>e=.returned (.tuple #[])∧ExtB g w W∧W.heap[g]? = some (.cells (cat [ints .u32 ((blk s b).l.map wv),ints .u8 b,#[.int .i64 m]]) 195)):=by
 have hl64:((w64 b).map wv).length=64:=by rw [zaF,Qcq]
 refine enter 137 [(0,pp g 0)] Tryz.func110 rfl rfl kj rfl <| sgC fun K3 hK3=>sg 3 kj <| sv (.agg (ints .u8 (b))) 23 (Qa4 120 _ g 8 195 _ _ _ hg rfl kj (Qap [ints .u32 ([wv s.a,wv s.b,wv s.c,wv s.d,wv s.e,wv s.f,wv s.g,wv s.h])] [ints .u8 (b)] [#[.int .i64 m]] 8 kj) kj (isz (n:=64) kj (izT hbl))) <| Qao (.agg (ints .u32 ((w64 b).map wv))) 112 #[.agg (ints .u8 (b))] 24 rfl kj kj ((QmG b hbl hbb) _) fun W1 e1=>?_
 have x1:=zbM (ExtB.refl g w) e1
 refine Qah (ints .u32 (zaj 64 0)) 198 2 rfl kj kj fun g4 W2 l4 e2 r4_2=>Qag g4 _ (ints .u32 ((w64 b).map wv)) 198 r4_2 rfl kj (Qaf 198 _ _ g4 198 _ _ r4_2 rfl kj kj (isz (n:=64) kj (izT hl64)) (eqsz (n:=64) (izT (qZ (n:=64))) (izT hl64)) (Qat _ _)) fun W3 p3 r4_3=>?_
 have x3:=ExtB.putsN (zbM x1 e2) p3 (qT x1.size l4)
 refine sgN hK3 <| sgC fun K5 hK5=>sg 3 kj ?_
 have r2_1:=(Qaa hg e1)
 have r2_3:=(rpn p3 r2_1 e2 l4)
 refine sv (.agg (ints .u32 ([wv s.a,wv s.b,wv s.c,wv s.d,wv s.e,wv s.f,wv s.g,wv s.h]))) 28 (Qa4 179 _ g 0 195 _ _ _ r2_3 rfl kj (Qap [] [ints .u32 ([wv s.a,wv s.b,wv s.c,wv s.d,wv s.e,wv s.f,wv s.g,wv s.h])] [ints .u8 (b),#[.int .i64 m]] 0 kj) kj (isz (n:=8) kj kj)) <| Qah (ints .u32 ([0,0,0,0,0,0,0,0])) 179 3 rfl kj kj fun g6 W4 l6 e4 r6_4=>Qag g6 _ (ints .u32 ([wv s.a,wv s.b,wv s.c,wv s.d,wv s.e,wv s.f,wv s.g,wv s.h])) 179 r6_4 rfl kj (Qaf 179 _ _ g6 179 _ _ r6_4 rfl kj kj (isz (n:=8) kj kj) (eqsz (n:=8) kj kj) (Qat _ _)) fun W5 p5 r6_5=>sgN hK5 <| wp_seq_k fun K7 hK7=>Qba 23 [⟨none,[(3,none)]⟩,⟨none,[(29,some 0)]⟩,⟨none,[(3,none)]⟩,⟨none,[(31,some 2)]⟩,⟨none,[(3,none)]⟩,⟨none,[(33,some 4)]⟩,⟨none,[(3,none)]⟩,⟨none,[(35,some 6)]⟩,⟨none,[(3,none)]⟩,⟨none,[(37,some 8)]⟩,⟨none,[(3,none)]⟩,⟨none,[(39,some 10)]⟩,⟨none,[(3,none)]⟩,⟨none,[(41,some 12)]⟩,⟨none,[(3,none)]⟩,⟨none,[(43,some 14)]⟩,⟨none,[(30,some 1)]⟩,⟨none,[(32,some 3)]⟩,⟨none,[(34,some 5)]⟩,⟨none,[(36,some 7)]⟩,⟨none,[(38,some 9)]⟩,⟨none,[(40,some 11)]⟩,⟨none,[(42,some 13)]⟩] kj kj fun F hF=>Qar (pp g6 0) kj kj (fun _=>kj) <| QaK (.int .u32 (wv s.a)) kj kj (fun W hR=>(Qab 139 _ g6 0 179 _ (.int .u32 (wv s.a)) _ (Qaa (Qaa r6_5 (Qan _)) hR) rfl kj kj kj)) <| Qar (pp g6 1) kj kj (fun _=>kj) <| QaK (.int .u32 (wv s.b)) kj kj (fun W hR=>(Qab 139 _ g6 1 179 _ (.int .u32 (wv s.b)) _ (Qaa (Qaa r6_5 (Qan _)) hR) rfl kj kj kj)) ?_
 refine Qar (pp g6 2) kj kj (fun _=>kj) <| QaK (.int .u32 (wv s.c)) kj kj (fun W hR=>(Qab 139 _ g6 2 179 _ (.int .u32 (wv s.c)) _ (Qaa (Qaa r6_5 (Qan _)) hR) rfl kj kj kj)) <| Qar (pp g6 3) kj kj (fun _=>kj) <| QaK (.int .u32 (wv s.d)) kj kj (fun W hR=>(Qab 139 _ g6 3 179 _ (.int .u32 (wv s.d)) _ (Qaa (Qaa r6_5 (Qan _)) hR) rfl kj kj kj)) <| Qar (pp g6 4) kj kj (fun _=>kj) <| QaK (.int .u32 (wv s.e)) kj kj (fun W hR=>(Qab 139 _ g6 4 179 _ (.int .u32 (wv s.e)) _ (Qaa (Qaa r6_5 (Qan _)) hR) rfl kj kj kj)) <| Qar (pp g6 5) kj kj (fun _=>kj) <| QaK (.int .u32 (wv s.f)) kj kj (fun W hR=>(Qab 139 _ g6 5 179 _ (.int .u32 (wv s.f)) _ (Qaa (Qaa r6_5 (Qan _)) hR) rfl kj kj kj)) <| Qar (pp g6 6) kj kj (fun _=>kj) <| QaK (.int .u32 (wv s.g)) kj kj (fun W hR=>(Qab 139 _ g6 6 179 _ (.int .u32 (wv s.g)) _ (Qaa (Qaa r6_5 (Qan _)) hR) rfl kj kj kj)) ?_
 refine Qar (pp g6 7) kj kj (fun _=>kj) <| QaK (.int .u32 (wv s.h)) kj kj (fun W hR=>(Qab 139 _ g6 7 179 _ (.int .u32 (wv s.h)) _ (Qaa (Qaa r6_5 (Qan _)) hR) rfl kj kj kj)) <| Qar (.int .u32 (wv s.a)) kj kj (fun _=>kj) <| Qar (.int .u32 (wv s.b)) kj kj (fun _=>kj) <| Qar (.int .u32 (wv s.c)) kj kj (fun _=>kj) <| Qar (.int .u32 (wv s.d)) kj kj (fun _=>kj) <| Qar (.int .u32 (wv s.e)) kj kj (fun _=>kj) <| Qar (.int .u32 (wv s.f)) kj kj (fun _=>kj) <| Qar (.int .u32 (wv s.g)) kj kj (fun _=>kj) <| Qbh (hF _ kj fun W6 e6=>?_)
 simp only [ups,up,Kn.val,zar,zas,zat,zau,zap,zaq]
 clear hF
 refine sg 1 kj <| sgN hK7 <| wp_seq_k fun K8 hK8=>sgC fun K9 hK9=>sv (.agg (ints .u32 ((w64 b).map wv))) 45 (Qae 198 _ g4 198 _ _ (Qaa (rpn p5 r4_3 e4 l6) e6) rfl kj kj (isz (n:=64) kj (izT hl64))) <| sg 1 kj <| sgN hK9 <| wp_block <| Qa3 (fun (s1:Nat)=>[(0,pp g 0),(45,.agg (ints .u32 ((w64 b).map wv))),(46,.int .i64 (s1:Int)),(4,.int .u32 (wv ((rnds KK (w64 b) s s1).a))),(5,.int .u32 (wv ((rnds KK (w64 b) s s1).b))),(6,.int .u32 (wv ((rnds KK (w64 b) s s1).c))),(7,.int .u32 (wv ((rnds KK (w64 b) s s1).d))),(8,.int .u32 (wv ((rnds KK (w64 b) s s1).e))),(9,.int .u32 (wv ((rnds KK (w64 b) s s1).f))),(10,.int .u32 (wv ((rnds KK (w64 b) s s1).g))),(11,.int .u32 (wv ((rnds KK (w64 b) s s1).h)))]) (fun (s1:Nat) W=>(s1≤64)∧(Ext W6 W)∧(ExtB g w W)) (fun (s1:Nat)=>64-s1) 0 ⟨kj,kj,kj,kj,kj,kj,kj,kj,kj,kj,kj,trivial⟩ ⟨(zak _),(zbH W6),(zbM (ExtB.putsN (zbM x3 e4) p5 (qT x3.size l6)) e6)⟩ fun s1 X1 V1 hI1=>?_
 obtain ⟨i,hs1⟩:∃ z,z=s1:=⟨_,rfl⟩
 subst hs1
 obtain ⟨hi,kk1,xx1⟩:=hI1
 replace hi:i≤64:=hi
 replace kk1:Ext W6 V1:=kk1
 replace xx1:ExtB g w V1:=xx1
 have e7:=kk1
 refine sgB kj <| wp_seq_k fun K11 hK11=>Qay (t:=decide ((i:Int)<64)) kj (fun c12=>?_) (fun c12=>?_)
 ·skip
  have hlt47:i<64:=by have:=of_decide_eq_true c12; omega
  refine wp_skip <| hK11 _ _ <| wp_seq_k fun K13 hK13=>wp_block <| sgC fun K14 hK14=>sg 1 kj <| sv (.int .u32 (wv (wget (w64 b) i))) 49 (QaE 198 _ _ .i64 .u32 ((w64 b).map wv) i 64 139 (wv (wget (w64 b) i)) rfl kj kj kj kj kj hl64 oo (QbJ _ _)) <| sg 2 kj <| sgN hK14 <| sgC fun K15 hK15=>?_
  refine sg 1 kj <| Qao (.int .u32 (wv (rr ((rnds KK (w64 b) s i).e) 6))) 93 #[.int .u32 (wv ((rnds KK (w64 b) s i).e)),.int .i64 (-6)] 51 rfl kj kj ((rotC ((rnds KK (w64 b) s i).e) 6 (-6) dd dd dd) _) fun W8 e8=>sg 1 kj <| Qao (.int .u32 (wv (rr ((rnds KK (w64 b) s i).e) 11))) 93 #[.int .u32 (wv ((rnds KK (w64 b) s i).e)),.int .i64 (-11)] 53 rfl kj kj ((rotC ((rnds KK (w64 b) s i).e) 11 (-11) dd dd dd) _) fun W9 e9=>?_
  have x9:=zbM (zbM xx1 e8) e9
  refine sv (.int .u32 (wv (((rr ((rnds KK (w64 b) s i).e) 6))^^^((rr ((rnds KK (w64 b) s i).e) 11))))) 54 (Qac kj (congrArg (zam .u32) (w_xor _ _))) <| sg 1 kj <| Qao (.int .u32 (wv (rr ((rnds KK (w64 b) s i).e) 25))) 93 #[.int .u32 (wv ((rnds KK (w64 b) s i).e)),.int .i64 (-25)] 56 rfl kj kj ((rotC ((rnds KK (w64 b) s i).e) 25 (-25) dd dd dd) _) fun W10 e10=>?_
  have x10:=zbM x9 e10
  refine sv (.int .u32 (wv (((((rr ((rnds KK (w64 b) s i).e) 6))^^^((rr ((rnds KK (w64 b) s i).e) 11))))^^^((rr ((rnds KK (w64 b) s i).e) 25))))) 57 (Qac kj (congrArg (zam .u32) (w_xor _ _))) <| sg 1 kj <| sgN hK15 <| sgC fun K16 hK16=>sg 1 kj <| Qao (.int .u32 (wv (rr ((rnds KK (w64 b) s i).a) 2))) 93 #[.int .u32 (wv ((rnds KK (w64 b) s i).a)),.int .i64 (-2)] 59 rfl kj kj ((rotC ((rnds KK (w64 b) s i).a) 2 (-2) dd dd dd) _) fun W11 e11=>sg 1 kj <| Qao (.int .u32 (wv (rr ((rnds KK (w64 b) s i).a) 13))) 93 #[.int .u32 (wv ((rnds KK (w64 b) s i).a)),.int .i64 (-13)] 61 rfl kj kj ((rotC ((rnds KK (w64 b) s i).a) 13 (-13) dd dd dd) _) fun W12 e12=>sv (.int .u32 (wv (((rr ((rnds KK (w64 b) s i).a) 2))^^^((rr ((rnds KK (w64 b) s i).a) 13))))) 62 (Qac kj (congrArg (zam .u32) (w_xor _ _))) <| sg 1 kj ?_
  refine Qao (.int .u32 (wv (rr ((rnds KK (w64 b) s i).a) 22))) 93 #[.int .u32 (wv ((rnds KK (w64 b) s i).a)),.int .i64 (-22)] 64 rfl kj kj ((rotC ((rnds KK (w64 b) s i).a) 22 (-22) dd dd dd) _) fun W13 e13=>sv (.int .u32 (wv (((((rr ((rnds KK (w64 b) s i).a) 2))^^^((rr ((rnds KK (w64 b) s i).a) 13))))^^^((rr ((rnds KK (w64 b) s i).a) 22))))) 65 (Qac kj (congrArg (zam .u32) (w_xor _ _))) <| sg 1 kj <| sgN hK16 <| sgC fun K17 hK17=>sg 2 kj <| sv (.int .u32 (wv ((((rnds KK (w64 b) s i).h))+((((((rr ((rnds KK (w64 b) s i).e) 6))^^^((rr ((rnds KK (w64 b) s i).e) 11))))^^^((rr ((rnds KK (w64 b) s i).e) 25))))))) 68 (Qac kj (congrArg (zam .u32) (Qcm _ _))) <| sg 2 kj <| sv (.int .u32 (wv ((((rnds KK (w64 b) s i).e))&&&(((rnds KK (w64 b) s i).f))))) 71 (Qac kj (congrArg (zam .u32) (Qf3 _ _))) <| sg 1 kj ?_
  refine sv (.int .u32 (wv (~~~(((rnds KK (w64 b) s i).e))))) 73 (Qac kj (congrArg (zam .u32) (Qpf _))) <| sg 1 kj <| sv (.int .u32 (wv (((~~~(((rnds KK (w64 b) s i).e))))&&&(((rnds KK (w64 b) s i).g))))) 75 (Qac kj (congrArg (zam .u32) (Qf3 _ _))) <| sv (.int .u32 (wv ((((((rnds KK (w64 b) s i).e))&&&(((rnds KK (w64 b) s i).f))))^^^((((~~~(((rnds KK (w64 b) s i).e))))&&&(((rnds KK (w64 b) s i).g))))))) 76 (Qac kj (congrArg (zam .u32) (w_xor _ _))) <| sv (.int .u32 (wv ((((((rnds KK (w64 b) s i).h))+((((((rr ((rnds KK (w64 b) s i).e) 6))^^^((rr ((rnds KK (w64 b) s i).e) 11))))^^^((rr ((rnds KK (w64 b) s i).e) 25))))))+(((((((rnds KK (w64 b) s i).e))&&&(((rnds KK (w64 b) s i).f))))^^^((((~~~(((rnds KK (w64 b) s i).e))))&&&(((rnds KK (w64 b) s i).g))))))))) 77 (Qac kj (congrArg (zam .u32) (Qcm _ _))) <| sg 1 kj <| sv (pp 4 i) 79 (Qa7 _ _ _ .i64 (i) _ 80 93 rfl kj kj kj kj oo) ?_
  have r1_1:=(Qaa hc e1)
  have r1_3:=(rpn p3 r1_1 e2 l4)
  refine sv (.int .u64 (nth (QaM) i)) 80 (Qab 93 _ 4 i tc _ (.int .u64 (nth (QaM) i)) _ (Qaa (Qaa (Qaa (Qaa (Qaa (Qaa (Qaa (Qaa (rpn p5 r1_3 e4 l6) e6) e7) e8) e9) e10) e11) e12) e13) rfl kj (QaD _ _ _ (zan oo (show QaM.length=80 from rfl).symm)) kj) <| sv (.int .u64 (nth QaM i/4294967296)) 81 (QaO .shr _ _ _ _ .u64 .u64 _ _ _ rfl kj kj (Qcd _ _ _ _ _ _ dd (Qod _))) <| sv (.int .u32 (wv (wget KK i))) 82 (Qac (u:=.int .u32 (zaE.wrap (nth QaM i/4294967296))) kj (congrArg (zam .u32) (Qm4 i hlt47))) <| sv (.int .u32 (wv ((((((((rnds KK (w64 b) s i).h))+((((((rr ((rnds KK (w64 b) s i).e) 6))^^^((rr ((rnds KK (w64 b) s i).e) 11))))^^^((rr ((rnds KK (w64 b) s i).e) 25))))))+(((((((rnds KK (w64 b) s i).e))&&&(((rnds KK (w64 b) s i).f))))^^^((((~~~(((rnds KK (w64 b) s i).e))))&&&(((rnds KK (w64 b) s i).g))))))))+((wget KK i))))) 83 (Qac kj (congrArg (zam .u32) (Qcm _ _))) <| sg 1 kj <| sv (.int .u32 (wv ((((((((((rnds KK (w64 b) s i).h))+((((((rr ((rnds KK (w64 b) s i).e) 6))^^^((rr ((rnds KK (w64 b) s i).e) 11))))^^^((rr ((rnds KK (w64 b) s i).e) 25))))))+(((((((rnds KK (w64 b) s i).e))&&&(((rnds KK (w64 b) s i).f))))^^^((((~~~(((rnds KK (w64 b) s i).e))))&&&(((rnds KK (w64 b) s i).g))))))))+((wget KK i))))+((wget (w64 b) i))))) 85 (Qac kj (congrArg (zam .u32) (Qcm _ _))) <| sg 1 kj <| sgN hK17 <| sgC fun K18 hK18=>sg 3 kj ?_
  refine sv (.int .u32 (wv ((((rnds KK (w64 b) s i).a))&&&(((rnds KK (w64 b) s i).b))))) 89 (Qac kj (congrArg (zam .u32) (Qf3 _ _))) <| sg 2 kj <| sv (.int .u32 (wv ((((rnds KK (w64 b) s i).a))&&&(((rnds KK (w64 b) s i).c))))) 92 (Qac kj (congrArg (zam .u32) (Qf3 _ _))) <| sv (.int .u32 (wv ((((((rnds KK (w64 b) s i).a))&&&(((rnds KK (w64 b) s i).b))))^^^(((((rnds KK (w64 b) s i).a))&&&(((rnds KK (w64 b) s i).c))))))) 93 (Qac kj (congrArg (zam .u32) (w_xor _ _))) <| sg 2 kj <| sv (.int .u32 (wv ((((rnds KK (w64 b) s i).b))&&&(((rnds KK (w64 b) s i).c))))) 96 (Qac kj (congrArg (zam .u32) (Qf3 _ _))) <| sv (.int .u32 (wv ((((((((rnds KK (w64 b) s i).a))&&&(((rnds KK (w64 b) s i).b))))^^^(((((rnds KK (w64 b) s i).a))&&&(((rnds KK (w64 b) s i).c))))))^^^(((((rnds KK (w64 b) s i).b))&&&(((rnds KK (w64 b) s i).c))))))) 97 (Qac kj (congrArg (zam .u32) (w_xor _ _))) <| sv (.int .u32 (wv (((((((rr ((rnds KK (w64 b) s i).a) 2))^^^((rr ((rnds KK (w64 b) s i).a) 13))))^^^((rr ((rnds KK (w64 b) s i).a) 22))))+(((((((((rnds KK (w64 b) s i).a))&&&(((rnds KK (w64 b) s i).b))))^^^(((((rnds KK (w64 b) s i).a))&&&(((rnds KK (w64 b) s i).c))))))^^^(((((rnds KK (w64 b) s i).b))&&&(((rnds KK (w64 b) s i).c))))))))) 98 (Qac kj (congrArg (zam .u32) (Qcm _ _))) <| sg 1 kj <| sgN hK18 ?_
  refine Qaj <| sg 5 kj <| sv (.int .u32 (wv ((((rnds KK (w64 b) s i).d))+(((((((((((rnds KK (w64 b) s i).h))+((((((rr ((rnds KK (w64 b) s i).e) 6))^^^((rr ((rnds KK (w64 b) s i).e) 11))))^^^((rr ((rnds KK (w64 b) s i).e) 25))))))+(((((((rnds KK (w64 b) s i).e))&&&(((rnds KK (w64 b) s i).f))))^^^((((~~~(((rnds KK (w64 b) s i).e))))&&&(((rnds KK (w64 b) s i).g))))))))+((wget KK i))))+((wget (w64 b) i))))))) 104 (Qac kj (congrArg (zam .u32) (Qcm _ _))) <| sg 5 kj <| sv (.int .u32 (wv ((((((((((((rnds KK (w64 b) s i).h))+((((((rr ((rnds KK (w64 b) s i).e) 6))^^^((rr ((rnds KK (w64 b) s i).e) 11))))^^^((rr ((rnds KK (w64 b) s i).e) 25))))))+(((((((rnds KK (w64 b) s i).e))&&&(((rnds KK (w64 b) s i).f))))^^^((((~~~(((rnds KK (w64 b) s i).e))))&&&(((rnds KK (w64 b) s i).g))))))))+((wget KK i))))+((wget (w64 b) i))))+((((((((rr ((rnds KK (w64 b) s i).a) 2))^^^((rr ((rnds KK (w64 b) s i).a) 13))))^^^((rr ((rnds KK (w64 b) s i).a) 22))))+(((((((((rnds KK (w64 b) s i).a))&&&(((rnds KK (w64 b) s i).b))))^^^(((((rnds KK (w64 b) s i).a))&&&(((rnds KK (w64 b) s i).c))))))^^^(((((rnds KK (w64 b) s i).b))&&&(((rnds KK (w64 b) s i).c))))))))))) 110 (Qac kj (congrArg (zam .u32) (Qcm _ _))) <| sg 8 kj <| Qas <| hK13 _ _ <| Qaj <| sv (.int .i64 ((i+1:Nat):Int)) 111 (Qac (u:=.int .i64 (zal.wrap ((i:Int)+1))) kj (congrArg (zam .i64) (i64n _ _ oo oo))) ?_
  refine sg 1 kj <| Qas ?_
  with_reducible repeat first | refine goX1 ?_ | refine goX2 ?_ | refine goX3 ?_
  exact Qa1 (i+1) ⟨kj,kj,kj,kj,kj,kj,kj,kj,kj,kj,kj,trivial⟩ ⟨oo,(zbI (zbI (zbI (zbI (zbI (zbI e7 e8) e9) e10) e11) e12) e13),(zbM (zbM (zbM x10 e11) e12) e13)⟩ oo
 ·skip
  have heq47:i=64:=by have:=of_decide_eq_false c12; omega
  refine wp_exit <| hK8 _ _ <| sgB kj <| wp_block ?_
  obtain ⟨r,hr9⟩:∃ z,z=rnds KK (w64 b) s i:=⟨_,rfl⟩
  have rg_:V1.heap[g]? = some (.cells (cat [ints .u32 (s.l.map wv),ints .u8 (b),#[.int .i64 m]]) 195):=(Qaa (Qaa (rpn p5 r2_3 e4 l6) e6) e7)
  refine Qa3 (fun (s2:Nat)=>[(0,pp g 0),(120,.agg (ints .u32 ([wv (rnds KK (w64 b) s i).a,wv (rnds KK (w64 b) s i).b,wv (rnds KK (w64 b) s i).c,wv (rnds KK (w64 b) s i).d,wv (rnds KK (w64 b) s i).e,wv (rnds KK (w64 b) s i).f,wv (rnds KK (w64 b) s i).g,wv (rnds KK (w64 b) s i).h]))),(121,.int .i64 (s2:Int))]) (fun (s2:Nat) W=>(s2≤8)∧(W.heap[g]? = some (.cells (cat [ints .u32 ((mixW s.l r.l s2).map wv),ints .u8 (b),#[.int .i64 m]]) 195))∧(Qai [g] V1 W)∧(ExtB g w W)) (fun (s2:Nat)=>8-s2) 0 ⟨kj,kj,kj,trivial⟩ ⟨(zak _),rg_,(zbS [g] V1),xx1⟩ fun s2 X2 V2 hI2=>?_
  obtain ⟨p,hs2⟩:∃ z,z=s2:=⟨_,rfl⟩
  subst hs2
  obtain ⟨hp,q2_2,kk2,xx2⟩:=hI2
  replace hp:p≤8:=hp
  replace q2_2:V2.heap[g]? = some (.cells (cat [ints .u32 ((mixW s.l r.l p).map wv),ints .u8 (b),#[.int .i64 m]]) 195):=q2_2
  replace kk2:Qai [g] V1 V2:=kk2
  replace xx2:ExtB g w V2:=xx2
  have q8:=kk2
  refine sgB kj <| wp_seq_k fun K21 hK21=>Qay (t:=decide ((p:Int)<8)) kj (fun c22=>?_) (fun c22=>?_)
  ·skip
   have hlt122:p<8:=by have:=of_decide_eq_true c22; omega
   refine wp_skip <| hK21 _ _ <| wp_seq_k fun K23 hK23=>wp_block <| sgC fun K24 hK24=>sg 1 kj <| sv (.int .u32 (wv (wget r.l p))) 124 (QaE 179 _ _ .i64 .u32 ([wv (rnds KK (w64 b) s i).a,wv (rnds KK (w64 b) s i).b,wv (rnds KK (w64 b) s i).c,wv (rnds KK (w64 b) s i).d,wv (rnds KK (w64 b) s i).e,wv (rnds KK (w64 b) s i).f,wv (rnds KK (w64 b) s i).g,wv (rnds KK (w64 b) s i).h]) p 8 139 (wv (wget r.l p)) rfl kj kj kj kj kj rfl oo (by rw [hr9]; exact QbJ (rnds KK (w64 b) s i).l p)) ?_
   refine sg 2 kj <| sgN hK24 <| Qba 11 [⟨none,[(0,none)]⟩,⟨none,[(18,none)]⟩,⟨none,[(125,some 0)]⟩,⟨none,[(127,some 2)]⟩,⟨none,[(128,some 3),(126,some 1)]⟩,⟨none,[(129,some 4)]⟩,⟨none,[(19,none)]⟩,⟨none,[(130,some 5),(131,some 6)]⟩,⟨none,[(125,some 0)]⟩,⟨none,[(133,some 8)]⟩,⟨none,[(134,some 9),(126,some 1)]⟩] kj kj fun F hF=>Qar (pp g 0) kj kj (fun _=>kj) <| Qar (.int .i64 (p:Int)) kj kj (fun _=>kj) <| Qar (pp g 0) kj kj (fun _=>kj) <| Qar (pp g 0) kj kj (fun _=>kj) <| Qar (pp g (0+p*1)) kj kj (fun W=>(Qcj 179 _ _ .i64 p g 0 8 139 1 rfl kj kj kj kj (show p<8 by omega))) <| QaK (.int .u32 (wv (wget s.l p))) kj kj (fun W hR=>(Qab 139 _ g (0+p*1) 195 _ (.int .u32 (wv (wget s.l p))) _ (Qaa (Qaa q2_2 (Qan _)) hR) rfl kj ((QdZ [] [ints .u8 (b),#[.int .i64 m]] ((mixW s.l r.l p).map wv) 0 p (0+p*1) kj oo (zan (show p<8 by omega) (Qgo s r hp).symm)).trans (congrArg (fun z=>some (zam .u32 z)) (Qkg s r hlt122))) kj)) <| Qar (.int .u32 (wv (wget r.l p))) kj kj (fun _=>kj) ?_
   refine Qar (.int .u32 (wv (((wget s.l p))+((wget r.l p))))) kj kj (fun W=>(Qac kj (congrArg (zam .u32) (Qcm _ _)))) <| Qar (pp g 0) kj kj (fun _=>kj) <| Qar (pp g 0) kj kj (fun _=>kj) <| Qar (pp g (0+p*1)) kj kj (fun W=>(Qcj 179 _ _ .i64 p g 0 8 139 1 rfl kj kj kj kj (show p<8 by omega))) <| Qbh (hF _ kj fun W9 e9=>?_)
   simp only [ups,up,Kn.val,zar,zas,zat,zau,zap,zaq]
   clear hF
   have x9:=zbM xx2 e9
   have r2_9:=(Qaa q2_2 e9)
   refine Qag g _ (cat [ints .u32 (((mixW s.l r.l p).map wv).set p (wv (((wget s.l p))+((wget r.l p))))),ints .u8 (b),#[.int .i64 m]]) 195 r2_9 rfl kj (Qek 139 _ _ g (0+p*1) 195 [] [ints .u8 (b),#[.int .i64 m]] ((mixW s.l r.l p).map wv) 0 p _ r2_9 rfl kj kj kj kj oo (zan (show p<8 by omega) (Qgo s r hp).symm)) fun W10 p10 r2_10=>?_
   have x10:=ExtB.puts x9 p10
   refine Qas <| hK23 _ _ <| Qaj <| sv (.int .i64 ((p+1:Nat):Int)) 136 (Qac (u:=.int .i64 (zal.wrap ((p:Int)+1))) kj (congrArg (zam .i64) (i64n _ _ oo oo))) <| sg 1 kj <| Qas ?_
   have rh_:W10.heap[g]? = some (.cells (cat [ints .u32 ((mixW s.l r.l (p+1)).map wv),ints .u8 (b),#[.int .i64 m]]) 195):=by have h9:=r2_10; rw [Qkf s r hlt122] at h9; exact h9
   with_reducible repeat first | refine goX1 ?_ | refine goX2 ?_ | refine goX3 ?_
   exact Qa1 (p+1) ⟨kj,kj,kj,trivial⟩ ⟨oo,rh_,(zbV (zbU q8 e9) p10 (.inl (by simp))),x10⟩ (by show 8-(p+1)<8-p; omega)
  ·skip
   have heq122:p=8:=by have:=of_decide_eq_false c22; omega
   refine wp_exit ?_
   with_reducible repeat first | refine goX1 ?_ | refine goX2 ?_ | refine goX3 ?_
   exact (show bodyPost _ _ _ .normal _ _ from end0 rfl ⟨rfl,xx2,by have h9:=q2_2; rw [heq122,hr9,heq47] at h9; exact h9⟩)
end Sha
end
section
namespace Sha
open Go Go.RowKit
open Rely Auto Own
theorem QdM (s : S8) (t u:List Int):∀ n:Nat,64*n≤t.length→absorb s (t++u) n=absorb s t n
  | 0,_=>rfl
  | n+1,h=>by
    show blk (absorb s (t++u) n) _=blk (absorb s t n) _
    rw [QdM s t u n oo]
    congr 1
    rw [zaI oo,zaJ (by rw [za9]; omega)]
def HasD (g : Nat) (t:List Int) (W:World):Prop:=∃ b:List Int,b.length=64∧Qak b∧b.take (t.length%64)=t.drop (64*(t.length/64))∧t.length≤1000000000 ∧
  W.heap[g]? = some (.cells (cat [ints .u32 ((absorb S0 t (t.length/64)).l.map wv),ints .u8 b,#[.int .i64 (t.length:Int)]]) 195)
def into (b z:List Int) (q n:Nat):List Int:=b.take q++z.take n++b.drop (q+n)
theorem into_len {b z:List Int} {q n:Nat} (hb:b.length=64) (hz:n≤z.length) (hq:q+n≤64):(into b z q n).length=64:=by
  simp only [into,za6,zai,za9]; omega
theorem Qev {b z:List Int} {q n:Nat} (hb:Qak b) (hz:Qak z):Qak (into b z q n):=fun x hx=>by
  rcases zaK.1 hx with hx | hx
  · rcases zaK.1 hx with hx | hx
    · exact hb x (zaL hx)
    · exact hz x (zaL hx)
  · exact hb x (zaM hx)
theorem into_take {b z t:List Int} {n:Nat} (hb:b.length=64) (hz:n≤z.length) (hp:b.take (t.length%64)=t.drop (64*(t.length/64))):(into b z (t.length%64) n).take (t.length%64+n)=(t++z.take n).drop (64*(t.length/64)):=by
  have e1:(b.take (t.length%64)++z.take n).length=t.length%64+n:=by
    rw [za6,zai,zai]; omega
  unfold into
  rw [←e1,List.take_left,hp,zaI oo]
theorem Qkw {b z t:List Int} {n:Nat} (hb:b.length=64) (hz:n≤z.length) (hp:b.take (t.length%64)=t.drop (64*(t.length/64))) (hn:t.length%64+n<64) :
    (into b z (t.length%64) n).take ((t++z.take n).length%64)=(t++z.take n).drop (64*((t++z.take n).length/64)):=by
  have hl:(t++z.take n).length=t.length+n:=by rw [za6,zai]; omega
  rw [hl,show (t.length+n)%64=t.length%64+n by omega,show (t.length+n)/64=t.length/64 by omega]
  exact into_take hb hz hp
theorem Qkv {b z t:List Int} {n:Nat} (hb:b.length=64) (hz:n≤z.length) (hp:b.take (t.length%64)=t.drop (64*(t.length/64))) (hn:t.length%64+n=64) :
    blk (absorb S0 t (t.length/64)) (into b z (t.length%64) n)=absorb S0 (t++z.take n) ((t++z.take n).length/64):=by
  have hl:(t++z.take n).length=t.length+n:=by rw [za6,zai]; omega
  rw [hl,show (t.length+n)/64=t.length/64+1 by omega]
  show _=blk (absorb S0 (t++z.take n) (t.length/64)) _
  rw [QdM S0 t _ _ oo]
  have h1:=into_take hb hz hp
  rw [hn,zaw (by rw [into_len hb hz oo]; omega)] at h1
  rw [h1,zaw (l:=(t++z.take n).drop (64*(t.length/64))) (by rw [za9,hl]; omega)]
theorem QiI {z t:List Int} {n:Nat} (hz:n≤z.length) (hn:t.length%64+n<64):absorb S0 (t++z.take n) ((t++z.take n).length/64)=absorb S0 t (t.length/64):=by
  have hl:(t++z.take n).length=t.length+n:=by rw [za6,zai]; omega
  rw [hl,show (t.length+n)/64=t.length/64 by omega,QdM S0 t _ _ oo]
section
variable {ds : List Deferred} {ops : Array Oper} {Q : Exit → Act → World → Prop} {rest : List Oper} {o : Oper} {N : Nat} {L : Env} {W : World}
theorem cat3 (a b c:Array Value):(cat [a,b,c]).toList=a.toList++(b.toList++c.toList):=by
  show (a++(b++c)).toList=_
  simp
theorem QlV {st b z:List Int} {u:Value} {q n:Nat} (hst:st.length=8) (hb:b.length=64) (hz:n≤z.length) (hq:q+n≤64) :
    ((cat [ints .u32 st,ints .u8 b,#[u]]).toList.take (8+q)++(z.take n).map (zam .u8)++(cat [ints .u32 st,ints .u8 b,#[u]]).toList.drop (8+q+n)).toArray=cat [ints .u32 st,ints .u8 (into b z q n),#[u]]:=by
  apply zaN
  rw [cat3,cat3]
  have e1:(ints .u32 st).toList=st.map (zam .u32):=rfl
  have e2:∀ b,(ints .u8 b).toList=b.map (zam .u8):=fun _=>rfl
  rw [e1,e2,e2]
  have l1:(st.map (zam .u32)).length=8:=by simpa using hst
  have l2:(b.map (zam .u8)).length=64:=by simpa using hb
  show (st.map (zam .u32)++(b.map (zam .u8)++[u])).take (8+q)++(z.take n).map (zam .u8)++(st.map (zam .u32)++(b.map (zam .u8)++[u])).drop (8+q+n)=_
  rw [show 8+q+n=8+(q+n) by omega]
  rw [←l1,List.take_length_add_append,List.drop_length_add_append,zaJ oo]
  rw [zaI oo]
  unfold into
  simp only [zaO,zaP,zaQ,zaR]
theorem Qj7 (x y:Operand) (tx ty:TypeId) (d:Nat) (ho:o.op=.call { callee:=.builtin .copy,args:=#[x,y],argTypes:=#[tx,ty] }) (hu:Tryz.prog.underlying tx=some (.slice 5)) (hd:o.dst=some d) (hgd:Qbp ops o N L=some true)
    {g q n B:Nat} {st b z:List Int} {u v:Value} {T:TypeId} (hst:st.length=8) (hb:b.length=64) (hx:Rely.look (envN N L) x=.slice (some ⟨g,8+q,none⟩) (64-q) (64-q)) (hy:Rely.look (envN N L) y=v) (hr:RdK .u8 B z v W)
    (hg:W.heap[g]? = some (.cells (cat [ints .u32 st,ints .u8 b,#[u]]) T)) (hq:q<64) (hn:n=min z.length (64-q)) (h0:0<z.length)
    (k:∀ W':World,Puts W g W'→W'.heap[g]? = some (.cells (cat [ints .u32 st,ints .u8 (into b z q n),#[u]]) T)→WL Tryz.prog ops Q rest (Qav ds N ((d,.int .i64 (n:Int))::L)) W'):WL Tryz.prog ops Q (o::rest) (Qav ds N L) W:=by
  obtain ⟨a,cap,rfl,y2,y3,y4,y5⟩:=hr
  obtain ⟨gz,oz,rfl,z2,z3,z4⟩:=y5.resolve_left (fun e=>by rw [e] at h0; simp at h0)
  have hlen:((z.take n).map (zam .u8)).length=n:=by simp; omega
  have hsz:(cat [ints .u32 st,ints .u8 b,#[u]]).size=73:=by
    rw [←zaS,cat3]; simp [ints]; omega
  have h:=run_copy_row (P:=Tryz.prog) W tx ty o.type 5 g (8+q) (64-q) (64-q) ⟨gz,oz,none⟩ z.length cap (cat [ints .u32 st,ints .u8 b,#[u]]) T ((z.take n).map (zam .u8)) hu kj hg (by rw [hlen]; exact hn)
    (Qh7 (k:=.u8) (ys:=z.take n) fun i hi=>by
      rw [zai] at hi
      rw [z4 i oo]
      simp [nth,show i<n by omega]) (by rw [hlen,hsz]; omega) (Qh3 .u8 _)
  rw [hlen,QlV hst hb oo oo] at h
  refine Qbs (.int .i64 (n:Int)) _ d hd hgd ?_ (k _ (Qbe _ _ _) (setRow_heap _ _ _ _ _ _ hg))
  unfold execOp
  simp only [ho,resolve,invoke,builtin,za0,za2,za1,zaT,zaU,zaV,hx,hy,h,goInt]
theorem QiK {P : Program} {ρ:Operand→Value} {k:IntKind} {B:Nat} {ys:List Int} {v:Value} (t:TypeId) (x z:Operand) (l n:Nat) (e:TypeId) (ho:o.op=.slice t x (some z) none none) (hx:ρ x=v) (hv:RdK k B ys v W)
    (hu:P.underlying t=some (.slice e)) (hs:(P.info? e).map (·.size)=some 1) (kz:IntKind) (hz:ρ z=.int kz (l:Int)) (h1:l≤ys.length) (hn:ys.length-l=n) :
    ∃ a c,(execOp ρ o).run P W=.ok (.value (.slice a n c)) W∧RdK k B (ys.drop l) (.slice a n c) W∧(za7 a n c).ownBlock=v.ownBlock:=by
  obtain ⟨u,h2,h3,h5⟩:=Qgc t x z l e ho hx hv hu hs kz hz h1
  obtain ⟨a,c,rfl,h4⟩:=id h3
  rw [za9,hn] at h2 h3 h5
  exact ⟨a,c,h2,h3,h5⟩
end
section
variable {ds : List Deferred} {ops : Array Oper} {Q : Exit → Act → World → Prop} {rest : List Oper} {o : Oper} {N : Nat} {L : Env} {W : World}
theorem Qgb {P : Program} {k:IntKind} {B:Nat} {ys:List Int} {v:Value} (t:TypeId) (x z:Operand) (l n:Nat) (e:TypeId) (d:Nat) (ho:o.op=.slice t x (some z) none none) (hd:o.dst=some d) (hg:Qbp ops o N L=some true) (hx:Rely.look (envN N L) x=v) (hv:RdK k B ys v W)
    (hu:P.underlying t=some (.slice e)) (hs:(P.info? e).map (·.size)=some 1) (kz:IntKind) (hz:Rely.look (envN N L) z=.int kz (l:Int)) (h1:l≤ys.length) (hn:ys.length-l=n)
    (kk:∀ a c,RdK k B (ys.drop l) (.slice a n c) W→(za7 a n c).ownBlock=v.ownBlock→WL P ops Q rest (Qav ds N ((d,.slice a n c)::L)) W):WL P ops Q (o::rest) (Qav ds N L) W:=by
  obtain ⟨a,c,h2,h3,h4⟩:=QiK (ρ:=Rely.look (envN N L)) t x z l n e ho hx hv hu hs kz hz h1 hn
  exact Qbs _ _ d hd hg h2 (kk a c h3 h4)
end
theorem run_storeQ {P : Program} {ρ:Operand→Value} {o:Oper} {w:World} (ty:TypeId) (x y:Operand) (g off:Nat) (t:TypeId) (pre post:List (Array Value)) (u v:Value) (hg:w.heap[g]? = some (.cells (cat (pre++([#[u]]++post))) t))
    (ho:o.op=.store ty x y) (hx:ρ x=pp g off) (hy:ρ y=v) (hi:(P.info? ty).map (·.size)=some 1) (hp:(cat pre).size=off) (h1:v.oneCell'=true) (hcs:v.cells=#[v]) :
    (execOp ρ o).run P w=.ok .skip (w.setRow g (cat (pre++([#[v]]++post)))):=by
  subst hp
  have hs:Nat.blt (cat pre).size (cat (pre++([#[u]]++post))).size=true:=by
    have:(cat pre).size<(cat (pre++([#[u]]++post))).size:=by
      rw [QaG,QaG,qS,qS]
      have e1:(cat [#[u]]).size=1:=rfl
      omega
    simpa using this
  have e:(cat (pre++([#[u]]++post))).setIfInBounds (cat pre).size v=cat (pre++([#[v]]++post)):=by
    rw [QaG,QaG,QaG,QaG]
    have e1:∀ z,cat [#[z]]=#[z]:=fun z=>rfl
    rw [e1,e1,Array.setIfInBounds_append_right (qR _),zaB,Array.setIfInBounds_append_left (by simp)]
    rfl
  rw [←e]
  exact Qbj ty x y g _ t _ v hg ho hx hy hi hs h1 hcs
end Sha
end
section
namespace Sha
open Go Go.RowKit
open Rely Auto Own
theorem addC (g B:Nat) (t ys:List Int) (v:Value) (tc:TypeId) (w:World) (hc:w.heap[4]? = some (.cells (ints .u64 QaM) tc)) (hcg:4≠g) (hB:ys=[]∨v.ownBlock≠some g) (hyb:Qak ys) (hlen:t.length+ys.length≤1000000000) (hd:HasD g t w) (hy:RdK .u8 B ys v w) :
  Calls Tryz.prog 106 #[pp g 0,v] w (fun e W=>e=.returned (.tuple #[])∧ExtB g w W∧HasD g (t++ys) W):=by
 obtain ⟨a0,c0,rfl,-⟩:=id hy
 refine enter 40 [(0,pp g 0),(1,.slice a0 ys.length c0)] Tryz.func106 rfl rfl kj rfl <| wp_seq_k fun K3 hK3=>sgB kj <| cond_false kj <| wp_skip <| hK3 _ _ <| wp_block ?_
 have hyb2:∀ {k:Nat},Qak (ys.drop k):=fun x hx=>hyb x (zaM hx)
 refine Qa3 (fun (s1:Nat×Option Addr×Nat)=>[(0,pp g 0),(1,.slice s1.2.1 (ys.length-s1.1) s1.2.2)]) (fun (s1:Nat×Option Addr×Nat) W=>(s1.1≤ys.length)∧(RdK .u8 B (ys.drop s1.1) (.slice s1.2.1 (ys.length-s1.1) s1.2.2) W)∧(s1.1<ys.length→(za7 s1.2.1 (ys.length-s1.1) s1.2.2).ownBlock≠some g)∧(HasD g (t++ys.take s1.1) W)∧(ExtB g w W)) (fun (s1:Nat×Option Addr×Nat)=>ys.length-s1.1) (0,a0,c0) ⟨kj,kj,trivial⟩ ⟨(zak _),hy,(fun h=>hB.resolve_left (fun e=>by rw [e] at h; exact absurd h (Nat.lt_irrefl _))),(by simpa using hd),(ExtB.refl g w)⟩ fun s1 X1 V1 hI1=>?_
 obtain ⟨k,a,c⟩:=s1
 obtain ⟨hk,hr,hnb,hD,xx1⟩:=hI1
 replace hk:k≤ys.length:=hk
 replace hr:RdK .u8 B (ys.drop k) (.slice a (ys.length-k) c) V1:=hr
 replace hnb:k<ys.length→(za7 a (ys.length-k) c).ownBlock≠some g:=hnb
 replace hD:HasD g (t++ys.take k) V1:=hD
 replace xx1:ExtB g w V1:=xx1
 refine wp_seq_k fun K5 hK5=>sgB kj <| Qay (t:=decide (((ys.length-k:Nat):Int)>0)) kj (fun c7=>?_) (fun c7=>?_)
 ·skip
  have hk2:k<ys.length:=by have:=of_decide_eq_true c7; omega
  obtain ⟨b,hbl,hbb,hbp,hmany,hrow⟩:=hD
  obtain ⟨t1,ht1⟩:∃ z,z=t++ys.take k:=⟨_,rfl⟩
  rw [←ht1] at hbp hmany hrow
  have hlt1:t1.length=t.length+k:=by rw [ht1,za6,zai]; omega
  obtain ⟨m,hm⟩:∃ z,z=t1.length:=⟨_,rfl⟩
  obtain ⟨s,hs⟩:∃ z,z=absorb S0 t1 (t1.length/64):=⟨_,rfl⟩
  obtain ⟨n,hn⟩:∃ z,z=min (ys.drop k).length (64-m%64):=⟨_,rfl⟩
  have hn0:0<n:=by rw [hn,za9]; omega
  have hn1:n≤ys.length-k:=by rw [hn,za9]; omega
  have hn2:n≤64-m%64:=by rw [hn]; omega
  rw [←hs,←hm] at hrow
  replace hrow:V1.heap[g]? = some (.cells (cat [ints .u32 ([wv s.a,wv s.b,wv s.c,wv s.d,wv s.e,wv s.f,wv s.g,wv s.h]),ints .u8 (b),#[.int .i64 (m:Int)]]) 195):=hrow
  refine wp_skip <| hK5 _ _ <| wp_block <| wp_seq_k fun K8 hK8=>QaT 10 [⟨none,[(0,none)]⟩,⟨none,[(10,some 0)]⟩,⟨none,[(11,some 1)]⟩,⟨none,[(0,none)]⟩,⟨none,[(13,some 3)]⟩,⟨none,[(14,some 4)]⟩,⟨none,[(15,some 5)]⟩,⟨none,[(16,some 6)]⟩,⟨none,[(12,some 2),(17,some 7)]⟩,⟨none,[(1,none)]⟩] kj kj fun F hF=>Qa2 (Qam _) (pp g 0) kj kj (fun _=>kj) <| Qa2 (Qam _) (pp g 0) kj kj (fun _=>kj) <| Qa2 (Qam _) (pp g 8) kj kj (fun _=>kj) <| Qa2 (Qam _) (pp g 0) kj kj (fun _=>kj) <| Qa2 (Qam _) (pp g 0) kj kj (fun _=>kj) ?_
  refine Qa2 (Qam _) (pp g 72) kj kj (fun _=>kj) <| QaN (Qam _) (.int .i64 (m:Int)) kj kj (fun W hR=>(Qab 3 _ g 72 195 _ (.int .i64 (m:Int)) _ (Qaa (Qaa hrow (Qan _)) hR) rfl kj (Qap [ints .u32 ([wv s.a,wv s.b,wv s.c,wv s.d,wv s.e,wv s.f,wv s.g,wv s.h]),ints .u8 (b)] [#[.int .i64 (m:Int)]] [] 72 (cz1 hbl) 0 _ rfl) kj)) ?_
  refine Qa2 (Qam _) (.int .i64 ((m%64:Nat):Int)) kj kj (fun W=>(Qac (u:=.int .i64 (zao ((m:Int)) (64))) kj (congrArg (zam .i64) (QbK _ 64)))) <| Qa2 (Qam _) (.slice (some ⟨g,8+(m%64),none⟩) (64-(m%64)) (64-(m%64))) kj kj (fun W=>(QbA 120 _ _ _ (m%64) 64 64 g 8 5 rfl kj kj kj ⟨.i64,by kernel_rfl⟩ rfl oo oo oo)) <| Qa2 (Qam _) (.slice a (ys.length-k) c) kj kj (fun _=>kj) <| Qc3 (hF _ fun W2 e2=>?_)
  simp only [zap,zaq,zar,zas,zat,zau,finE,up]
  clear hF
  have f9_2:=(hr.ext e2)
  have hbl2:(into b (ys.drop k) (m%64) n).length=64:=into_len hbl (by rw [za9]; omega) oo
  refine Qj7 (.tmp 18) (.tmp 19) 41 41 20 rfl kj rfl kj (q:=m%64) (n:=n) (b:=b) rfl hbl kj kj f9_2 (Qaa hrow e2) oo hn (by rw [za9]; omega) fun W3 p3 r2_3=>?_
  refine sg 1 kj <| sgN hK8 <| sgC fun K10 hK10=>sg 2 kj <| Qgb 41 (.tmp 21) (.tmp 22) n (ys.length-k-n) 5 23 rfl rfl kj kj (f9_2.putsN p3 (hnb hk2)) kj kj .i64 kj (by rw [za9]; omega) (by rw [za9]) fun a2 c2 hr2 hob=>?_
  have hnb2:(za7 a2 (ys.length-k-n) c2).ownBlock≠some g:=by rw [hob]; exact hnb hk2
  refine sg 1 kj <| sgN hK10 <| sgC fun K12 hK12=>sg 3 kj <| sv (.int .i64 (m:Int)) 27 (Qab 3 _ g 72 195 _ (.int .i64 (m:Int)) _ r2_3 rfl kj (Qap [ints .u32 ([wv s.a,wv s.b,wv s.c,wv s.d,wv s.e,wv s.f,wv s.g,wv s.h]),ints .u8 (into b (ys.drop k) (m%64) n)] [#[.int .i64 (m:Int)]] [] 72 (cz1 hbl2) 0 _ rfl) kj) ?_
  refine sg 1 kj <| sv (.int .i64 ((m+n:Nat):Int)) 29 (Qac (u:=.int .i64 (zal.wrap ((m:Int)+(n:Int)))) kj (congrArg (zam .i64) (i64n _ _ oo oo))) <| sg 2 kj <| Qag g _ (cat [ints .u32 ([wv s.a,wv s.b,wv s.c,wv s.d,wv s.e,wv s.f,wv s.g,wv s.h]),ints .u8 (into b (ys.drop k) (m%64) n),#[.int .i64 ((m+n:Nat):Int)]]) 195 r2_3 rfl kj (run_storeQ 3 _ _ g 72 195 [ints .u32 ([wv s.a,wv s.b,wv s.c,wv s.d,wv s.e,wv s.f,wv s.g,wv s.h]),ints .u8 (into b (ys.drop k) (m%64) n)] [] _ (.int .i64 ((m+n:Nat):Int)) r2_3 rfl kj kj kj (cz1 hbl2) rfl rfl) fun W4 p4 r2_4=>?_
  have x4:=ExtB.puts (ExtB.puts (zbM xx1 e2) p3) p4
  refine sgN hK12 <| sgC fun K13 hK13=>sg 3 kj <| sv (.int .i64 ((m+n:Nat):Int)) 35 (Qab 3 _ g 72 195 _ (.int .i64 ((m+n:Nat):Int)) _ r2_4 rfl kj (Qap [ints .u32 ([wv s.a,wv s.b,wv s.c,wv s.d,wv s.e,wv s.f,wv s.g,wv s.h]),ints .u8 (into b (ys.drop k) (m%64) n)] [#[.int .i64 ((m+n:Nat):Int)]] [] 72 (cz1 hbl2) 0 _ rfl) kj) ?_
  refine sv (.int .i64 (((m+n)%64:Nat):Int)) 36 (Qac (u:=.int .i64 (zao ((m+n:Nat):Int) (64))) kj (congrArg (zam .i64) (QbK _ 64))) <| sg 1 kj <| sgN hK13 <| Qay (t:=((((m+n)%64:Nat):Int)==0)) kj (fun c14=>?_) (fun c14=>?_)
  ·skip
   have hmod:(m+n)%64=0:=by have:=c14; have h2:=eq_of_beq this; omega
   refine Qaj <| sg 1 kj <| Qau (fun v W'=>v=.tuple #[]∧ExtB g W4 W'∧W'.heap[g]? = some (.cells (cat [ints .u32 ((blk s (into b (ys.drop k) (m%64) n)).l.map wv),ints .u8 (into b (ys.drop k) (m%64) n),#[.int .i64 ((m+n:Nat):Int)]]) 195)) 110 #[pp g 0] 39 rfl kj kj ((Qph g s _ hbl2 (Qev hbb hyb2) _ tc _ (zbJ p4 (zbJ p3 (Qaa (zbN xx1 hc hcg) e2) hcg) hcg) r2_4).mono fun e w' h=>⟨_,h.1,rfl,h.2⟩) fun v W5 h=>?_
   obtain ⟨rfl,q5,r2_5⟩:=h
   refine Qas ?_
   have hr3:RdK .u8 B (ys.drop (k+n)) (.slice a2 (ys.length-(k+n)) c2) W5:=by
    have h:=((hr2.putsN p4 hnb2).extN q5 hnb2)
    rw [zaW,show ys.length-k-n=ys.length-(k+n) by omega] at h
    exact h
   have hlen3:(t1++(ys.drop k).take n).length=m+n:=by rw [za6,zai,za9]; omega
   have hnb3:(za7 a2 (ys.length-(k+n)) c2).ownBlock≠some g:=by rw [show ys.length-(k+n)=ys.length-k-n by omega]; exact hnb2
   have hT:t++ys.take (k+n)=t1++(ys.drop k).take n:=by rw [ht1,zaR,List.take_add]
   have hzn:n≤(ys.drop k).length:=by rw [za9]; omega
   have hb0:(into b (ys.drop k) (m%64) n).take ((t++ys.take (k+n)).length%64)=(t++ys.take (k+n)).drop (64*((t++ys.take (k+n)).length/64)):=by
    rw [hT,hlen3,hmod,zas,zaX oo]
   have hst:blk s (into b (ys.drop k) (m%64) n)=absorb S0 (t++ys.take (k+n)) ((t++ys.take (k+n)).length/64):=by rw [hT,hs,hm]; exact Qkv hbl hzn hbp oo
   have hD2:HasD g (t++ys.take (k+n)) W5:=⟨_,hbl2,Qev hbb hyb2,hb0,by rw [hT,hlen3]; omega,by rw [←hst,hT,hlen3]; exact r2_5⟩
   with_reducible repeat first | refine goX1 ?_ | refine goX2 ?_ | refine goX3 ?_
   exact Qa1 (k+n,a2,c2) ⟨kj,(congrArg (fun z=>za7 a2 z c2) oo),trivial⟩ ⟨oo,hr3,(fun _=>hnb3),hD2,(ExtB.trans x4 q5)⟩ (by show ys.length-(k+n)<ys.length-k; omega)
  ·skip
   have hmod:¬ (m+n)%64=0:=by have:=c14; intro h0; rw [h0] at this; exact absurd this dd
   refine wp_skip ?_
   have hr3:RdK .u8 B (ys.drop (k+n)) (.slice a2 (ys.length-(k+n)) c2) W4:=by
    have h:=(hr2.putsN p4 hnb2)
    rw [zaW,show ys.length-k-n=ys.length-(k+n) by omega] at h
    exact h
   have hlen3:(t1++(ys.drop k).take n).length=m+n:=by rw [za6,zai,za9]; omega
   have hnb3:(za7 a2 (ys.length-(k+n)) c2).ownBlock≠some g:=by rw [show ys.length-(k+n)=ys.length-k-n by omega]; exact hnb2
   have hT:t++ys.take (k+n)=t1++(ys.drop k).take n:=by rw [ht1,zaR,List.take_add]
   have hzn:n≤(ys.drop k).length:=by rw [za9]; omega
   have hb0:(into b (ys.drop k) (m%64) n).take ((t++ys.take (k+n)).length%64)=(t++ys.take (k+n)).drop (64*((t++ys.take (k+n)).length/64)):=by
    rw [hT,hm]; exact Qkw hbl hzn hbp oo
   have hst:s=absorb S0 (t++ys.take (k+n)) ((t++ys.take (k+n)).length/64):=by rw [hT,hs]; exact (QiI hzn oo).symm
   have hD2:HasD g (t++ys.take (k+n)) W4:=⟨_,hbl2,Qev hbb hyb2,hb0,by rw [hT,hlen3]; omega,by rw [←hst,hT,hlen3]; exact r2_4⟩
   with_reducible repeat first | refine goX1 ?_ | refine goX2 ?_ | refine goX3 ?_
   exact Qa1 (k+n,a2,c2) ⟨kj,(congrArg (fun z=>za7 a2 z c2) oo),trivial⟩ ⟨oo,hr3,(fun _=>hnb3),hD2,x4⟩ (by show ys.length-(k+n)<ys.length-k; omega)
 ·skip
  have hk2:k=ys.length:=by have:=of_decide_eq_false c7; omega
  refine wp_exit ?_
  with_reducible repeat first | refine goX1 ?_ | refine goX2 ?_ | refine goX3 ?_
  exact (show bodyPost _ _ _ .normal _ _ from end0 rfl ⟨rfl,xx1,by rw [hk2,zav] at hD; exact hD⟩)
end Sha
end
section
namespace Sha
open Go Go.RowKit
open Rely Auto Own
theorem Qfx (n : Nat):Qak (zaj n 0):=fun x hx=>by
  have:=za5 hx
  subst this; decide
theorem Qn2 (n : Nat):(64-(n+1+8)%64)%64=Qbc n:=by unfold Qbc; omega
theorem QnW (n : Nat) (h:n≤1000000000):zaA.wrap (n:Int)=(n:Int):=by
  have:∀ z:Int,zaA.wrap z=z%2^64:=fun _=>rfl
  rw [this]; omega
theorem Qpg (n : Nat) (h:n≤1000000000):zaA.wrap ((n:Int)*2^min (3:Int).toNat zaA.bits)=((8*n:Nat):Int):=by
  have:∀ z:Int,zaA.wrap z=z%2^64:=fun _=>rfl
  rw [this,show ((2:Int)^min (3:Int).toNat zaA.bits)=8 from rfl]; omega
theorem QnY (n : Nat) (h:n≤1000000000):(n:Int).fdiv (2^min (61:Int).toNat zaA.bits)=0:=by
  rw [zaH _ dd,show ((2:Int)^min (61:Int).toNat zaA.bits)=2305843009213693952 from rfl]; omega
theorem QkN (m : Nat):zaf.wrap (m:Int)=((m%256:Nat):Int):=by
  have:∀ z:Int,zaf.wrap z=z%2^8:=fun _=>rfl
  rw [this]; omega
theorem Qpp (n i:Nat):((8*n/256^i:Nat):Int).fdiv (2^min (8:Int).toNat zaA.bits)=((8*n/256^(i+1):Nat):Int):=by
  rw [zaH _ dd,show ((2:Int)^min (8:Int).toNat zaA.bits)=256 from rfl,Nat.pow_succ,←Nat.div_div_eq_div_mul]; omega
theorem lowlt (n i:Nat) (h:n≤1000000000):8*n/256^(i+1)<18446744073709551616:=Nat.lt_of_le_of_lt (Nat.div_le_self _ _) oo
theorem or0 (m : Nat) (h:m<18446744073709551616):bits .or .u64 (m:Int) 0=(m:Int):=by
  have:=bits_or_u64_nat m 0 h dd
  rw [Nat.or_zero] at this
  exact this
def padL (n i:Nat):List Int:=128::(zaj (Qbc n) 0++(zaj (8-i) 0++(be8 (8*n)).drop (8-i)))
theorem Ql0 (n : Nat) {i:Nat} (h:i≤8):(padL n i).length=1+Qbc n+8:=by
  have:(be8 (8*n)).length=8:=rfl
  simp [padL,this]; omega
theorem QdP (n : Nat):(QeE n).length=1+Qbc n+8:=by
  have:(be8 (8*n)).length=8:=rfl
  simp [QeE,this]; omega
theorem Qot (n : Nat):(zaj (1+Qbc n+8) (0:Int)).set 0 128=padL n 0:=by
  rw [show 1+Qbc n+8=(Qbc n+8)+1 by omega,zaY,zaZ,←List.replicate_append_replicate]
  rfl
theorem Qlz (n i:Nat) (h:i<8):(padL n i).set (1+Qbc n+8-1-i) ((8*n/256^i%256:Nat):Int)=padL n (i+1):=by
  unfold padL
  rw [show 1+Qbc n+8-1-i=(Qbc n+(7-i))+1 by omega,List.set_cons_succ,zba _ _ (by simp),qZ,Nat.add_sub_cancel_left]
  congr 2
  match i,h with
  | 0,_=>rfl
  | 1,_=>rfl
  | 2,_=>rfl
  | 3,_=>rfl
  | 4,_=>rfl
  | 5,_=>rfl
  | 6,_=>rfl
  | 7,_=>rfl
theorem Qlx (n : Nat) (hn:n≤1000000000) (w:World):Calls Tryz.prog 111 #[.int .i64 (n:Int),.int .i64 64,.int .i64 8] w (Qby w (OwnN .u8 5 w.heap.size (QeE n))):=by
 have hF:Qbc n<64:=by unfold Qbc; omega
 refine enter 59 [(0,.int .i64 (n:Int)),(1,.int .i64 64),(2,.int .i64 8)] Tryz.func111 rfl rfl kj rfl <| sgB kj <| sgC fun K2 hK2=>sg 2 kj <| sv (.int .i64 ((n+1:Nat):Int)) 15 (Qac (u:=.int .i64 (zal.wrap ((n:Int)+1))) kj (congrArg (zam .i64) (i64n _ _ oo oo))) <| sg 1 kj <| sv (.int .i64 (((n+1)+8:Nat):Int)) 17 (Qac (u:=.int .i64 (zal.wrap (((n+1:Nat):Int)+8))) kj (congrArg (zam .i64) (i64n _ _ oo oo))) <| sg 1 kj <| sv (.int .i64 ((((n+1)+8)%64:Nat):Int)) 19 (Qac (u:=.int .i64 (zao ((((n+1)+8:Nat):Int)) (64))) kj (congrArg (zam .i64) (QbK _ 64))) <| sv (.int .i64 ((64-(((n+1)+8)%64):Nat):Int)) 20 (Qac (u:=.int .i64 (zal.wrap (64-((((n+1)+8)%64:Nat):Int)))) kj (congrArg (zam .i64) (i64n _ _ oo oo))) ?_
 refine sg 1 kj <| sv (.int .i64 ((Qbc n:Nat):Int)) 22 (Qac (u:=.int .i64 (zao (((64-(((n+1)+8)%64):Nat):Int)) (64))) kj (congrArg (zam .i64) ((QbK _ 64).trans (congrArg (fun z:Nat=>(z:Int)) (Qn2 n))))) <| sg 1 kj <| sgN hK2 <| sgC fun K3 hK3=>sg 1 kj <| sv (.int .i64 ((1+(Qbc n):Nat):Int)) 24 (Qac (u:=.int .i64 (zal.wrap (1+((Qbc n:Nat):Int)))) kj (congrArg (zam .i64) (i64n _ _ oo oo))) <| sg 1 kj <| sv (.int .i64 (((1+(Qbc n))+8:Nat):Int)) 26 (Qac (u:=.int .i64 (zal.wrap (((1+(Qbc n):Nat):Int)+8))) kj (congrArg (zam .i64) (i64n _ _ oo oo))) <| QaA (ints .u8 (zaj ((1+(Qbc n))+8) 0)) 5 ((1+(Qbc n))+8) 27 rfl kj (QdR 41 _ _ .i64 .i64 ((1+(Qbc n))+8) 5 rfl kj kj kj (.inr kj) oo) fun g4 W1 l4 e1 r4_1=>?_
 have b4:=qT (zbH w).size l4
 refine sg 1 kj <| sgN hK3 <| sgC fun K5 hK5=>sg 1 kj <| sv (pp g4 0) 29 (Qbr 41 _ _ .i64 (0) g4 ((1+(Qbc n))+8) ((1+(Qbc n))+8) 5 rfl kj kj kj kj oo) <| Qag g4 _ (ints .u8 ((zaj ((1+(Qbc n))+8) 0).set 0 128)) 5 r4_1 rfl kj (Qa0 5 _ _ g4 0 5 _ _ r4_1 rfl kj kj kj (zan oo (qZ (n:=((1+(Qbc n))+8))).symm)) fun W2 p2 r4_2=>sgN hK5 <| sgC fun K6 hK6=>sg 1 kj <| sv (.int .u64 ((n:Int))) 31 (Qac (u:=.int .u64 (zaA.wrap (n:Int))) kj (congrArg (zam .u64) (QnW n oo))) ?_
 refine sv (.int .u64 ((8*n:Nat):Int)) 32 (QaO .shl _ _ _ _ .u64 .u64 _ _ _ rfl kj kj (Qef _ _ _ _ _ _ dd (Qpg n oo))) <| sg 1 kj <| sv (.int .u64 ((n:Int))) 34 (Qac (u:=.int .u64 (zaA.wrap (n:Int))) kj (congrArg (zam .u64) (QnW n oo))) <| sv (.int .u64 (0)) 35 (QaO .shr _ _ _ _ .u64 .u64 _ _ _ rfl kj kj (Qcd _ _ _ _ _ _ dd (QnY n oo))) <| sg 2 kj <| sgN hK6 <| wp_seq_k fun K7 hK7=>sgB kj <| wp_block <| Qa3 (fun (s1:Nat)=>[(8,.slice (some ⟨g4,0,none⟩) ((1+(Qbc n))+8) ((1+(Qbc n))+8)),(9,.int .u64 ((8*n/256^s1:Nat):Int)),(10,.int .u64 0),(36,.int .i64 8),(37,.int .i64 (s1:Int))]) (fun (s1:Nat) W=>(s1≤8)∧(W.heap[g4]? = some (.cells (ints .u8 (padL n s1)) 5))∧(Qai [g4] W2 W)∧(Ext w W)) (fun (s1:Nat)=>8-s1) 0 ⟨kj,(congrArg (fun z:Nat=>zam .u64 (z:Int)) (Nat.div_one _).symm),kj,kj,kj,trivial⟩ ⟨(zak _),(Qa9 r4_2 (Qot n)),(zbS [g4] W2),(zbK p2 (zbL (zbH w) e1) b4)⟩ fun s1 X1 V1 hI1=>?_
 obtain ⟨i,hs1⟩:∃ z,z=s1:=⟨_,rfl⟩
 subst hs1
 obtain ⟨hi,q4_1,kk1,xx1⟩:=hI1
 replace hi:i≤8:=hi
 replace q4_1:V1.heap[g4]? = some (.cells (ints .u8 (padL n i)) 5):=q4_1
 replace kk1:Qai [g4] W2 V1:=kk1
 replace xx1:Ext w V1:=xx1
 have q3:=kk1
 refine sgB kj <| wp_seq_k fun K10 hK10=>Qay (t:=decide ((i:Int)<8)) kj (fun c11=>?_) (fun c11=>?_)
 ·skip
  have hlt38:i<8:=by have:=of_decide_eq_true c11; omega
  refine wp_skip <| hK10 _ _ <| wp_seq_k fun K12 hK12=>wp_block <| sgB kj <| sgC fun K14 hK14=>sg 1 kj <| sv (.int .u8 ((8*n/256^i%256:Nat):Int)) 41 (Qac (u:=.int .u8 (zaf.wrap ((8*n/256^i:Nat):Int))) kj (congrArg (zam .u8) (QkN _))) <| sg 1 kj <| sgN hK14 ?_
  refine sgC fun K15 hK15=>sg 3 kj <| sv (.int .i64 ((((1+(Qbc n))+8)-1:Nat):Int)) 45 (Qac (u:=.int .i64 (zal.wrap ((((1+(Qbc n))+8:Nat):Int)-1))) kj (congrArg (zam .i64) (i64n _ _ oo oo))) <| sg 1 kj <| sv (.int .i64 (((((1+(Qbc n))+8)-1)-i:Nat):Int)) 47 (Qac (u:=.int .i64 (zal.wrap (((((1+(Qbc n))+8)-1:Nat):Int)-(i:Int)))) kj (congrArg (zam .i64) (i64n _ _ oo oo))) <| sg 1 kj <| sv (pp g4 ((((1+(Qbc n))+8)-1)-i)) 49 (Qbr 41 _ _ .i64 ((((1+(Qbc n))+8)-1)-i) g4 ((1+(Qbc n))+8) ((1+(Qbc n))+8) 5 rfl kj kj kj kj oo) <| Qag g4 _ (ints .u8 ((padL n i).set ((((1+(Qbc n))+8)-1)-i) ((8*n/256^i%256:Nat):Int))) 5 q4_1 rfl kj (Qa0 5 _ _ g4 ((((1+(Qbc n))+8)-1)-i) 5 _ _ q4_1 rfl kj kj kj (zan oo (Ql0 n oo).symm)) fun W4 p4 r4_4=>sgN hK15 <| sgC fun K16 hK16=>?_
  refine sg 1 kj <| sv (.int .u64 (((8*n/256^(i+1):Nat):Int))) 51 (QaO .shr _ _ _ _ .u64 .u64 _ _ _ rfl kj kj (Qcd _ _ _ _ _ _ dd (Qpp n i))) <| sg 1 kj <| sv (.int .u64 (0)) 53 (QaO .shl _ _ _ _ .u64 .u64 _ _ _ rfl kj kj (Qef _ _ _ _ _ _ dd (show zaA.wrap (0*2^min (56:Int).toNat zaA.bits)=0 from rfl))) <| sv (.int .u64 (((8*n/256^(i+1):Nat):Int))) 54 (Qac (u:=.int .u64 (bits .or .u64 (((8*n/256^(i+1):Nat):Int)) (0))) kj (congrArg (zam .u64) (or0 _ (lowlt n i oo)))) <| sg 1 kj <| sgN hK16 <| Qaj <| sg 1 kj <| sv (.int .u64 (0)) 56 (QaO .shr _ _ _ _ .u64 .u64 _ _ _ rfl kj kj (Qcd _ _ _ _ _ _ dd (show Int.fdiv 0 (2^min (8:Int).toNat zaA.bits)=0 from rfl))) ?_
  refine sg 1 kj <| Qas <| hK12 _ _ <| Qaj <| sv (.int .i64 ((i+1:Nat):Int)) 57 (Qac (u:=.int .i64 (zal.wrap ((i:Int)+1))) kj (congrArg (zam .i64) (i64n _ _ oo oo))) <| sg 1 kj <| Qas ?_
  with_reducible repeat first | refine goX1 ?_ | refine goX2 ?_ | refine goX3 ?_
  exact Qa1 (i+1) ⟨kj,kj,kj,kj,kj,trivial⟩ ⟨oo,(Qa9 r4_4 (Qlz n i hlt38)),(zbV q3 p4 (.inl (by simp))),(zbK p4 xx1 b4)⟩ oo
 ·skip
  have heq38:i=8:=by have:=of_decide_eq_false c11; omega
  have r4_3_17:V1.heap[g4]? = some (.cells (ints .u8 (QeE n)) 5):=Qa9 q4_1 (by rw [heq38]; rfl)
  refine wp_exit <| hK7 _ _ <| sgB kj <| wp_ret ?_
  with_reducible repeat first | refine goR1 ?_ | refine goR2 ?_
  exact (show bodyPost _ _ _ .ret _ _ from ret1 (.slice (some ⟨g4,0,none⟩) ((1+(Qbc n))+8) ((1+(Qbc n))+8)) rfl (Qax kj) ⟨_,rfl,xx1,Qb3 (QdP n) b4 r4_3_17 (by simp only [maxLen]; omega)⟩)
theorem newC (tq : TypeId) (w:World) (hq:w.heap[3]? = some (.cells (ints .u64 Qa5) tq)):Calls Tryz.prog 105 #[] w (Qby w (fun v W=>∃ g,v=pp g 0∧w.heap.size≤g∧HasD g [] W)):=by
 refine enter 21 [] Tryz.func105 rfl rfl kj rfl <| sgB kj <| sgC fun K3 hK3=>sg 1 kj <| Qah (cat [ints .u32 ([0,0,0,0,0,0,0,0]),ints .u8 (zaj 64 0),#[.int .i64 0]]) 195 5 rfl kj kj fun g4 W1 l4 e1 r4_1=>?_
 have b4:=qT (zbH w).size l4
 refine sg 1 kj <| sgN hK3 <| wp_seq_k fun K5 hK5=>sgC fun K6 hK6=>sv (.agg (ints .u64 (Qa5))) 6 (Qae 196 _ 3 tq _ _ (Qaa hq e1) rfl kj kj (isz (n:=8) kj (izT (show Qa5.length=8 from rfl)))) <| sg 1 kj <| sgN hK6 <| wp_block ?_
 have rz_:W1.heap[g4]? = some (.cells (cat [ints .u32 (fill (S0.l.map wv) 8 0),ints .u8 (zaj 64 0),#[.int .i64 0]]) 195):=r4_1
 refine Qa3 (fun (s1:Nat)=>[(1,pp g4 0),(4,.agg (cat [ints .u32 ([0,0,0,0,0,0,0,0]),ints .u8 (zaj 64 0),#[.int .i64 0]])),(5,pp g4 0),(6,.agg (ints .u64 (Qa5))),(7,.int .i64 (s1:Int))]) (fun (s1:Nat) W=>(s1≤8)∧(W.heap[g4]? = some (.cells (cat [ints .u32 (fill (S0.l.map wv) 8 s1),ints .u8 (zaj 64 0),#[.int .i64 0]]) 195))∧(Qai [g4] W1 W)∧(Ext w W)) (fun (s1:Nat)=>8-s1) 0 ⟨kj,kj,kj,kj,kj,trivial⟩ ⟨(zak _),rz_,(zbS [g4] W1),(zbL (zbH w) e1)⟩ fun s1 X1 V1 hI1=>?_
 obtain ⟨p,hs1⟩:∃ z,z=s1:=⟨_,rfl⟩
 subst hs1
 obtain ⟨hp,q4_1,kk1,xx1⟩:=hI1
 replace hp:p≤8:=hp
 replace q4_1:V1.heap[g4]? = some (.cells (cat [ints .u32 (fill (S0.l.map wv) 8 p),ints .u8 (zaj 64 0),#[.int .i64 0]]) 195):=q4_1
 replace kk1:Qai [g4] W1 V1:=kk1
 replace xx1:Ext w V1:=xx1
 have q2:=kk1
 refine sgB kj <| wp_seq_k fun K8 hK8=>Qay (t:=decide ((p:Int)<8)) kj (fun c9=>?_) (fun c9=>?_)
 ·skip
  have hlt8:p<8:=by have:=of_decide_eq_true c9; omega
  refine wp_skip <| hK8 _ _ <| wp_seq_k fun K10 hK10=>wp_block <| sgC fun K11 hK11=>sg 1 kj <| sv (.int .u64 (nth Qa5 p)) 10 (QaE 196 _ _ .i64 .u64 (Qa5) p 8 93 (nth Qa5 p) rfl kj kj kj kj kj (show Qa5.length=8 from rfl) oo rfl) <| sg 2 kj <| sgN hK11 <| Qaj ?_
  refine sg 3 kj <| sv (.int .u64 (nth Qa5 p/4294967296)) 14 (QaO .shr _ _ _ _ .u64 .u64 _ _ _ rfl kj kj (Qcd _ _ _ _ _ _ dd (Qod _))) <| sv (.int .u32 (nth (S0.l.map wv) p)) 15 (Qac (u:=.int .u32 (zaE.wrap (nth Qa5 p/4294967296))) kj (congrArg (zam .u32) ((by decide +kernel:∀ i:Fin 8,zaE.wrap (nth Qa5 i.val/4294967296)=nth (S0.l.map wv) i.val) ⟨p,hlt8⟩))) <| sg 2 kj <| sv (pp g4 (0+p*1)) 18 (Qcj 179 _ _ .i64 p g4 0 8 139 1 rfl kj kj kj kj (show p<8 by omega)) <| Qag g4 _ (cat [ints .u32 ((fill (S0.l.map wv) 8 p).set p (nth (S0.l.map wv) p)),ints .u8 (zaj 64 0),#[.int .i64 0]]) 195 q4_1 rfl kj (Qek 139 _ _ g4 (0+p*1) 195 [] [ints .u8 (zaj 64 0),#[.int .i64 0]] (fill (S0.l.map wv) 8 p) 0 p _ q4_1 rfl kj kj kj kj oo (zan (show p<8 by omega) (Qb4 (n:=8) rfl hp).symm)) fun W3 p3 r4_3=>Qas <| hK10 _ _ <| Qaj <| sv (.int .i64 ((p+1:Nat):Int)) 19 (Qac (u:=.int .i64 (zal.wrap ((p:Int)+1))) kj (congrArg (zam .i64) (i64n _ _ oo oo))) ?_
  refine sg 1 kj <| Qas ?_
  have rg_:W3.heap[g4]? = some (.cells (cat [ints .u32 (fill (S0.l.map wv) 8 (p+1)),ints .u8 (zaj 64 0),#[.int .i64 0]]) 195):=by have h9:=r4_3; rw [Qcl (n:=8) rfl hlt8] at h9; exact h9
  with_reducible repeat first | refine goX1 ?_ | refine goX2 ?_ | refine goX3 ?_
  exact Qa1 (p+1) ⟨kj,kj,kj,kj,kj,trivial⟩ ⟨oo,rg_,(zbV q2 p3 (.inl (by simp))),(zbK p3 xx1 b4)⟩ (by show 8-(p+1)<8-p; omega)
 ·skip
  have heq8:p=8:=by have:=of_decide_eq_false c9; omega
  have rh_:V1.heap[g4]? = some (.cells (cat [ints .u32 (S0.l.map wv),ints .u8 (zaj 64 0),#[.int .i64 0]]) 195):=by have h9:=q4_1; rw [heq8,QcF (show (S0.l.map wv).length=8 from rfl)] at h9; exact h9
  refine wp_exit <| hK5 _ _ <| sgB kj <| wp_ret ?_
  with_reducible repeat first | refine goR1 ?_ | refine goR2 ?_
  exact (show bodyPost _ _ _ .ret _ _ from ret1 (pp g4 0) rfl (Qax kj) ⟨_,rfl,xx1,_,rfl,b4,zaj 64 0,qZ,Qfx 64,rfl,zak _,rh_⟩)
end Sha
end
section
namespace Sha
open Go Go.RowKit
open Rely Auto Own
theorem QnS (x : Int):zaf.wrap x=x%256:=by
  have:zaf.wrap x=x%2^8:=rfl
  rw [this]; rfl
theorem QnV (x : Wd) (n d:Nat) (h:2^n=d):zaf.wrap (wv (x>>>n))=((x.toNat/d%256:Nat):Int):=by
  subst h
  rw [QnS]; unfold wv; rw [BitVec.toNat_ushiftRight,Nat.shiftRight_eq_div_pow]; omega
theorem out_byte (s : S8) {a b:Nat} (ha:a<8) (hb:b<4):zaf.wrap (wv (wget s.l a>>>(24-8*b)))=nth s.out (4*a+b):=by
  rcases (show b=0∨b=1∨b=2∨b=3 by omega) with rfl | rfl | rfl | rfl <;> rcases (show a=0∨a=1∨a=2∨a=3∨a=4∨a=5∨a=6∨a=7 by omega) with rfl | rfl | rfl | rfl | rfl | rfl | rfl | rfl <;> exact QnV _ _ _ dd
theorem QeY (n : Nat):Qak (QeE n):=fun x hx=>by
  unfold QeE at hx
  rcases zbb.1 hx with h | h
  · omega
  · rcases zaK.1 h with h | h
    · exact Qfx _ x h
    · simp only [be8,zbb,zbc,or_false] at h
      rcases h with h | h | h | h | h | h | h | h <;> omega
set_option maxHeartbeats 8000000 in
theorem sumC (g : Nat) (t:List Int) (tc:TypeId) (w:World) (hc:w.heap[4]? = some (.cells (ints .u64 QaM) tc)) (hlen:t.length≤900000000) (hd:HasD g t w):Calls Tryz.prog 107 #[pp g 0] w (Ret w (.agg (ints .u8 (dig t)))):=by
 obtain ⟨b,hbl,hbb,hbp,hmany,hrow⟩:=hd
 obtain ⟨s,hs⟩:∃ z,z=absorb S0 t (t.length/64):=⟨_,rfl⟩
 rw [←hs] at hrow
 replace hrow:w.heap[g]? = some (.cells (cat [ints .u32 ([wv s.a,wv s.b,wv s.c,wv s.d,wv s.e,wv s.f,wv s.g,wv s.h]),ints .u8 (b),#[.int .i64 (t.length:Int)]]) 195):=hrow
 refine enter 43 [(0,pp g 0)] Tryz.func107 rfl rfl kj rfl <| sgC fun K3 hK3=>Qah (ints .u8 (zaj 32 0)) 23 2 rfl kj kj fun g4 W1 l4 e1 r4_1=>?_
 have x1:=zbL (zbH w) e1
 refine sgN hK3 <| sgC fun K5 hK5=>Qah (ints .u8 (zaj 32 0)) 23 3 rfl kj kj fun g6 W2 l6 e2 r6_2=>?_
 have x2:=zbL x1 e2
 refine sgN hK5 <| wp_seq_k fun K7 hK7=>sgB kj <| cond_false kj <| wp_skip <| hK7 _ _ <| sgC fun K9 hK9=>sg 2 kj ?_
 have r2_2:=(Qaa (Qaa hrow e1) e2)
 refine sv (.agg (cat [ints .u32 ([wv s.a,wv s.b,wv s.c,wv s.d,wv s.e,wv s.f,wv s.g,wv s.h]),ints .u8 (b),#[.int .i64 (t.length:Int)]])) 13 (Qae 195 _ g 195 _ _ r2_2 rfl kj kj (isz (n:=73) kj (cz1 hbl))) ?_
 refine Qah (cat [ints .u32 ([0,0,0,0,0,0,0,0]),ints .u8 (zaj 64 0),#[.int .i64 0]]) 195 4 rfl kj kj fun g10 W3 l10 e3 r10_3=>?_
 have b10:=qT x2.size l10
 refine Qag g10 _ (cat [ints .u32 ([wv s.a,wv s.b,wv s.c,wv s.d,wv s.e,wv s.f,wv s.g,wv s.h]),ints .u8 (b),#[.int .i64 (t.length:Int)]]) 195 r10_3 rfl kj (Qaf 195 _ _ g10 195 _ _ r10_3 rfl kj kj (isz (n:=73) kj (cz1 hbl)) (eqsz (n:=73) czR (cz1 hbl)) (QaQ _ (by intro a ha; simp only [zbb,zbc,or_false] at ha; rcases ha with rfl | rfl | rfl; exact (Qat _ _); exact (Qat _ _); exact (Qaz _ rfl)))) fun W4 p4 r10_4=>?_
 refine sgN hK9 <| sgC fun K11 hK11=>sg 3 kj <| sv (.int .i64 (t.length:Int)) 17 (Qab 3 _ g 72 195 _ (.int .i64 (t.length:Int)) _ (rpn p4 r2_2 e3 l10) rfl kj (Qap [ints .u32 ([wv s.a,wv s.b,wv s.c,wv s.d,wv s.e,wv s.f,wv s.g,wv s.h]),ints .u8 (b)] [#[.int .i64 (t.length:Int)]] [] 72 (cz1 hbl) 0 _ rfl) kj) ?_
 refine Qau (fun v W'=>(OwnN .u8 5 W4.heap.size (QeE t.length)) v W'∧Ext W4 W') 111 #[.int .i64 (t.length:Int),.int .i64 64,.int .i64 8] 18 rfl kj kj ((Qlx t.length oo _).mono mo1) fun vv12 W5 hh12=>?_
 obtain ⟨hv12,e5⟩:=hh12
 have r1_2:=(Qaa (Qaa hc e1) e2)
 have hd4:HasD g10 t W5:=⟨b,hbl,hbb,hbp,hmany,by rw [←hs]; exact (Qaa r10_4 e5)⟩
 have hp4:=hv12
 have hfl:Qbc t.length<64:=by unfold Qbc; omega
 have hpl:t.length+(QeE t.length).length≤1000000000:=by rw [QdP]; omega
 refine Qau (fun v W'=>v=.tuple #[]∧ExtB g10 W5 W'∧HasD g10 (t++QeE t.length) W') 106 #[pp g10 0,vv12] 19 rfl kj kj ((addC g10 _ t (QeE t.length) _ tc _ (Qaa (rpn p4 r1_2 e3 l10) e5) (Qad r1_2 l10) (.inr (hp4.nb (Qaq r10_4))) (QeY _) hpl hd4 (zbR hp4)).mono fun e w' h=>⟨_,h.1,rfl,h.2⟩) fun v W6 h=>?_
 obtain ⟨rfl,q6,hD5⟩:=h
 obtain ⟨b5,hbl5,hbb5,-,-,hrow5⟩:=hD5
 obtain ⟨s5,hs5⟩:∃ z,z=absorb S0 (padT t) ((padT t).length/64):=⟨_,rfl⟩
 rw [show t++QeE t.length=padT t from rfl,←hs5] at hrow5
 replace hrow5:W6.heap[g10]? = some (.cells (cat [ints .u32 ([wv s5.a,wv s5.b,wv s5.c,wv s5.d,wv s5.e,wv s5.f,wv s5.g,wv s5.h]),ints .u8 (b5),#[.int .i64 (((padT t).length:Nat):Int)]]) 195):=hrow5
 refine sgN hK11 <| wp_seq_k fun K13 hK13=>sgC fun K14 hK14=>sg 1 kj <| sv (.agg (ints .u32 ([wv s5.a,wv s5.b,wv s5.c,wv s5.d,wv s5.e,wv s5.f,wv s5.g,wv s5.h]))) 21 (Qa4 179 _ g10 0 195 _ _ _ hrow5 rfl kj (Qap [] [ints .u32 ([wv s5.a,wv s5.b,wv s5.c,wv s5.d,wv s5.e,wv s5.f,wv s5.g,wv s5.h])] [ints .u8 (b5),#[.int .i64 (((padT t).length:Nat):Int)]] 0 kj) kj (isz (n:=8) kj kj)) <| sg 1 kj <| sgN hK14 <| wp_block <| Qa3 (fun (s1:Nat)=>[(2,pp g4 0),(3,pp g6 0),(21,.agg (ints .u32 ([wv s5.a,wv s5.b,wv s5.c,wv s5.d,wv s5.e,wv s5.f,wv s5.g,wv s5.h]))),(22,.int .i64 (s1:Int))]) (fun (s1:Nat) W=>(s1≤8)∧(W.heap[g6]? = some (.cells (ints .u8 (fill s5.out 32 (4*s1))) 23))∧(Qai [g6] W6 W)∧(Ext w W)) (fun (s1:Nat)=>8-s1) 0 ⟨kj,kj,kj,kj,trivial⟩ ⟨(zak _),(Qa9 (zbN q6 (Qaa (rpn p4 r6_2 e3 l10) e5) (Qad r6_2 l10)) (QcE s5.out 32).symm),(zbS [g6] W6),(zbO (zbL (zbK p4 (zbL x2 e3) b10) e5) q6 b10)⟩ fun s1 X1 V1 hI1=>?_
 obtain ⟨i,hs1⟩:∃ z,z=s1:=⟨_,rfl⟩
 subst hs1
 obtain ⟨hi,q6_1,kk1,xx1⟩:=hI1
 replace hi:i≤8:=hi
 replace q6_1:V1.heap[g6]? = some (.cells (ints .u8 (fill s5.out 32 (4*i))) 23):=q6_1
 replace kk1:Qai [g6] W6 V1:=kk1
 replace xx1:Ext w V1:=xx1
 have q7:=kk1
 refine sgB kj <| wp_seq_k fun K16 hK16=>Qay (t:=decide ((i:Int)<8)) kj (fun c17=>?_) (fun c17=>?_)
 ·skip
  have hlt23:i<8:=by have:=of_decide_eq_true c17; omega
  refine wp_skip <| hK16 _ _ <| wp_seq_k fun K18 hK18=>wp_block <| sgC fun K19 hK19=>sg 1 kj <| sv (.int .u32 (wv (wget s5.l i))) 25 (QaE 179 _ _ .i64 .u32 ([wv s5.a,wv s5.b,wv s5.c,wv s5.d,wv s5.e,wv s5.f,wv s5.g,wv s5.h]) i 8 139 (wv (wget s5.l i)) rfl kj kj kj kj kj rfl oo (show nth (s5.l.map wv) i=_ from QbJ _ _)) <| sg 2 kj <| sgN hK19 <| sgB kj ?_
  refine wp_block <| Qa3 (fun (s2:Nat)=>[(2,pp g4 0),(3,pp g6 0),(5,.int .i64 (i:Int)),(6,.int .u32 (wv (wget s5.l i))),(21,.agg (ints .u32 ([wv s5.a,wv s5.b,wv s5.c,wv s5.d,wv s5.e,wv s5.f,wv s5.g,wv s5.h]))),(22,.int .i64 (i:Int)),(26,.int .i64 (s2:Int))]) (fun (s2:Nat) W=>(s2≤4)∧(W.heap[g6]? = some (.cells (ints .u8 (fill s5.out 32 (4*i+s2))) 23))∧(Qai [g6] V1 W)∧(Ext w W)) (fun (s2:Nat)=>4-s2) 0 ⟨kj,kj,kj,kj,kj,kj,kj,trivial⟩ ⟨(zak _),(Qa9 q6_1 (show _=fill s5.out 32 (4*i+0) from rfl)),(zbS [g6] V1),xx1⟩ fun s2 X2 V2 hI2=>?_
  obtain ⟨j,hs2⟩:∃ z,z=s2:=⟨_,rfl⟩
  subst hs2
  obtain ⟨hj,q6_2,kk2,xx2⟩:=hI2
  replace hj:j≤4:=hj
  replace q6_2:V2.heap[g6]? = some (.cells (ints .u8 (fill s5.out 32 (4*i+j))) 23):=q6_2
  replace kk2:Qai [g6] V1 V2:=kk2
  replace xx2:Ext w V2:=xx2
  have q8:=kk2
  refine sgB kj <| wp_seq_k fun K22 hK22=>Qay (t:=decide ((j:Int)<4)) kj (fun c23=>?_) (fun c23=>?_)
  ·skip
   have hlt27:j<4:=by have:=of_decide_eq_true c23; omega
   refine wp_skip <| hK22 _ _ <| wp_seq_k fun K24 hK24=>wp_block <| sgB kj <| Qaj <| sg 1 kj <| sv (.int .i64 ((4*i:Nat):Int)) 30 (Qac (u:=.int .i64 (zal.wrap (4*(i:Int)))) kj (congrArg (zam .i64) (i64n _ _ oo oo))) <| sg 1 kj <| sv (.int .i64 (((4*i)+j:Nat):Int)) 32 (Qac (u:=.int .i64 (zal.wrap (((4*i:Nat):Int)+(j:Int)))) kj (congrArg (zam .i64) (i64n _ _ oo oo))) ?_
   refine sg 2 kj <| sv (.int .i64 ((8*j:Nat):Int)) 35 (Qac (u:=.int .i64 (zal.wrap (8*(j:Int)))) kj (congrArg (zam .i64) (i64n _ _ oo oo))) <| sv (.int .i64 ((24-8*j:Nat):Int)) 36 (Qac (u:=.int .i64 (zal.wrap (24-((8*j:Nat):Int)))) kj (congrArg (zam .i64) (i64n _ _ oo oo))) <| sv (.int .u32 (wv (wget s5.l i>>>(24-8*j)))) 37 (QaO .shr _ _ _ _ .u32 .i64 _ _ _ rfl kj kj (Qcd _ _ _ _ _ _ oo (Qf2 _ _ (24-8*j) rfl oo))) <| sv (.int .u8 (nth s5.out (4*i+j))) 38 (Qac (u:=.int .u8 (zaf.wrap (wv (wget s5.l i>>>(24-8*j))))) kj (congrArg (zam .u8) (out_byte s5 hlt23 hlt27))) <| sv (pp g6 ((4*i)+j)) 39 (Qa7 _ _ _ .i64 ((4*i)+j) _ 32 5 rfl kj kj kj kj oo) <| Qag g6 _ (ints .u8 ((fill s5.out 32 (4*i+j)).set ((4*i)+j) (nth s5.out (4*i+j)))) 23 q6_2 rfl kj (Qa0 5 _ _ g6 ((4*i)+j) 23 _ _ q6_2 rfl kj kj kj (zan oo (Qb4 (show s5.out.length=32 from rfl) oo).symm)) fun W9 p9 r6_9=>Qas <| hK24 _ _ <| Qaj ?_
   refine sv (.int .i64 ((j+1:Nat):Int)) 40 (Qac (u:=.int .i64 (zal.wrap ((j:Int)+1))) kj (congrArg (zam .i64) (i64n _ _ oo oo))) <| sg 1 kj <| Qas ?_
   with_reducible repeat first | refine goX1 ?_ | refine goX2 ?_ | refine goX3 ?_
   exact Qa1 (j+1) ⟨kj,kj,kj,kj,kj,kj,kj,trivial⟩ ⟨oo,(Qa9 r6_9 (Qcl (show s5.out.length=32 from rfl) oo)),(zbV q8 p9 (.inl (by simp))),(zbK p9 xx2 (qT x1.size l6))⟩ (by show 4-(j+1)<4-j; omega)
  ·skip
   have heq27:j=4:=by have:=of_decide_eq_false c23; omega
   have r6_8_26:V2.heap[g6]? = some (.cells (ints .u8 (fill s5.out 32 (4*(i+1)))) 23):=Qa9 q6_2 (by rw [heq27]; rfl)
   refine wp_exit <| hK18 _ _ <| Qaj <| sv (.int .i64 ((i+1:Nat):Int)) 41 (Qac (u:=.int .i64 (zal.wrap ((i:Int)+1))) kj (congrArg (zam .i64) (i64n _ _ oo oo))) <| sg 1 kj <| Qas ?_
   with_reducible repeat first | refine goX1 ?_ | refine goX2 ?_ | refine goX3 ?_
   exact Qa1 (i+1) ⟨kj,kj,kj,kj,trivial⟩ ⟨oo,r6_8_26,(Qai.keeps q7 q8 (QdE (.inl (by simp)) Qfi)),xx2⟩ (by show 8-(i+1)<8-i; omega)
 ·skip
  have heq23:i=8:=by have:=of_decide_eq_false c17; omega
  have r6_7_27:V1.heap[g6]? = some (.cells (ints .u8 (s5.out)) 23):=Qa9 q6_1 (by rw [heq23]; exact QcF (show s5.out.length=32 from rfl))
  refine wp_exit <| hK13 _ _ <| sgC fun K28 hK28=>sv (.agg (ints .u8 (s5.out))) 42 (Qae 23 _ g6 23 _ _ r6_7_27 rfl kj kj (isz (n:=32) kj (izT (show s5.out.length=32 from rfl)))) ?_
  have r4_2:=(Qaa r4_1 e2)
  have r4_7:=(zbT q7 (zbN q6 (Qaa (rpn p4 r4_2 e3 l10) e5) (Qad r4_2 l10)) (Qaw (Qad r4_1 l6) QaF))
  refine Qag g4 _ (ints .u8 (s5.out)) 23 r4_7 rfl kj (Qaf 23 _ _ g4 23 _ _ r4_7 rfl kj kj (isz (n:=32) kj (izT (show s5.out.length=32 from rfl))) (eqsz (n:=32) (izT (qZ (n:=32))) (izT (show s5.out.length=32 from rfl))) (Qat _ _)) fun W8 p8 r4_8=>sgN hK28 <| wp_ret ?_
  with_reducible repeat first | refine goR1 ?_ | refine goR2 ?_
  exact (show bodyPost _ _ _ .ret _ _ from ret1 (.agg (ints .u8 (s5.out))) rfl (QaJ g4 23 _ r4_8 kj kj (isz (n:=32) kj (izT (show s5.out.length=32 from rfl)))) ⟨by rw [show dig t=s5.out by rw [hs5]; rfl],(zbK p8 xx1 (qT (zbH w).size l4))⟩)
end Sha
end
section
namespace Sha
open Go Go.RowKit
open Rely Auto Own
def pat (ps : List (Value×List Int)) (i:Nat):Value×List Int:=ps.getD i (undef,[])
def flat (ps : List (Value×List Int)) (i:Nat):List Int:=((ps.take i).map Prod.snd).flatten
theorem QjS {ps : List (Value×List Int)} {i:Nat} (h:i<ps.length):pat ps i=ps[i]:=by simp [pat,h]
theorem Qgg {ps : List (Value×List Int)} {i:Nat} (h:i<ps.length):pat ps i∈ps:=by rw [QjS h]; exact List.getElem_mem h
theorem Qmq {ps : List (Value×List Int)} {i:Nat} (h:i<ps.length):(ps.map Prod.fst).toArray[i]? = some (pat ps i).1:=by
  rw [QjS h]; simp [h]
theorem Qfq {ps : List (Value×List Int)} {i:Nat} (h:i<ps.length):flat ps (i+1)=flat ps i++(pat ps i).2:=by
  unfold flat
  rw [zbd,zbe h,QjS h,zaO,zbf]
  show _++[ps[i].2].flatten=_
  rw [List.flatten_singleton]
theorem Qea {ps : List (Value×List Int)} {n:Nat} (h:ps.length=n):flat ps n=(ps.map Prod.snd).flatten:=by
  subst h; simp [flat]
theorem Qk4 {ps : List (Value×List Int)} {i:Nat} (h:i<ps.length):(flat ps i).length+(pat ps i).2.length≤((ps.map Prod.snd).flatten).length:=by
  have e:(flat ps (i+1)).length=(flat ps i).length+(pat ps i).2.length:=by rw [Qfq h,za6]
  rw [←e]
  have:(ps.map Prod.snd).flatten=flat ps (i+1)++((ps.drop (i+1)).map Prod.snd).flatten:=by
    unfold flat
    rw [←zbf,←zaO,zbg]
  rw [this,za6]; omega
theorem Qnb (s : S8):s.out.length=32:=rfl
theorem QaY (t : List Int):(dig t).length=32:=Qnb _
theorem Qmn (gp n:Nat) (Tp:TypeId) (ps:List (Value×List Int)) (hn:ps.length=n) (hn9:n≤1000000) (tc tq:TypeId) (w:World) (hc:w.heap[4]? = some (.cells (ints .u64 QaM) tc)) (hq:w.heap[3]? = some (.cells (ints .u64 Qa5) tq)) (hrow:w.heap[gp]? = some (.cells (ps.map Prod.fst).toArray Tp)) (hps:∀ p∈ps,RdK .u8 w.heap.size p.2 p.1 w∧Qak p.2) (hlen:((ps.map Prod.snd).flatten).length≤900000000):Calls Tryz.prog 108 #[.slice (some ⟨gp,0,none⟩) n n] w (Ret w (.agg (ints .u8 (dig ((ps.map Prod.snd).flatten))))):=by
 refine enter 19 [(0,.slice (some ⟨gp,0,none⟩) n n)] Tryz.func108 rfl rfl kj rfl <| sgC fun K4 hK4=>Qah (ints .u8 (zaj 32 0)) 23 2 rfl kj kj fun g5 W1 l5 e1 r5_1=>?_
 have x1:=zbL (zbH w) e1
 refine sgN hK4 <| sgC fun K6 hK6=>Qau (fun v W'=>(fun v W=>∃ g,v=pp g 0∧W1.heap.size≤g∧HasD g [] W) v W'∧Ext W1 W') 105 #[] 6 rfl kj kj ((newC tq _ (Qaa hq e1)).mono mo1) fun vv7 W2 hh7=>?_
 obtain ⟨hv7,e2⟩:=hh7
 obtain ⟨gd8,rfl,ld8,hD8⟩:=hv7
 have b8:=qT x1.size ld8
 refine sg 1 kj <| sgN hK6 <| wp_seq_k fun K9 hK9=>sgB kj <| wp_block <| Qa3 (fun (s1:Nat)=>[(7,.slice (some ⟨gp,0,none⟩) n n),(8,.int .i64 (n:Int)),(9,.int .i64 (s1:Int)),(3,pp gd8 0),(2,pp g5 0)]) (fun (s1:Nat) W=>(s1≤n)∧(HasD gd8 (flat ps s1) W)∧(Qai [gd8] W2 W)∧(Ext w W)) (fun (s1:Nat)=>n-s1) 0 ⟨kj,kj,kj,kj,kj,trivial⟩ ⟨(zak _),(show HasD _ (flat ps 0) _ from hD8),(zbS [gd8] W2),(zbL x1 e2)⟩ fun s1 X1 V1 hI1=>?_
 obtain ⟨i,hs1⟩:∃ z,z=s1:=⟨_,rfl⟩
 subst hs1
 obtain ⟨hi,hDi,kk1,xx1⟩:=hI1
 replace hi:i≤n:=hi
 replace hDi:HasD gd8 (flat ps i) V1:=hDi
 replace kk1:Qai [gd8] W2 V1:=kk1
 replace xx1:Ext w V1:=xx1
 have q3:=kk1
 refine sgB kj <| wp_seq_k fun K12 hK12=>Qay (t:=decide ((i:Int)<(n:Int))) kj (fun c13=>?_) (fun c13=>?_)
 ·skip
  have hlt10:i<n:=by have:=of_decide_eq_true c13; omega
  refine wp_skip <| hK12 _ _ <| wp_seq_k fun K14 hK14=>wp_block <| sgC fun K15 hK15=>?_
  have hi2:i<ps.length:=by omega
  refine sv (pp gp i) 11 (Qbr 143 _ _ .i64 i gp n n 41 rfl kj kj kj kj hlt10) ?_
  have r3_1:=(Qaa hrow e1)
  refine sv ((pat ps i).1) 12 (QaB 41 _ _ ((pat ps i).1) (Qdc (zbT q3 (Qaa r3_1 e2) (Qaw (Qad r3_1 ld8) QaF)) (Qmq hi2)) rfl kj kj) <| sg 1 kj <| sgN hK15 <| Qaj <| sg 2 kj ?_
  have r1_1:=(Qaa hc e1)
  have r1_2:=(Qaa r1_1 e2)
  have r1_3:=(zbT q3 r1_2 (Qaw (Qad r1_1 ld8) QaF))
  have hp6:=(hps _ (Qgg hi2)).1.ext xx1
  have hl6:=Qk4 hi2
  refine Qau (fun v W'=>v=.tuple #[]∧ExtB gd8 V1 W'∧HasD gd8 ((flat ps i)++(pat ps i).2) W') 106 #[pp gd8 0,(pat ps i).1] 15 rfl kj kj ((addC gd8 _ _ _ _ tc _ r1_3 (zbh (qL (Qaq hc) b8)) (hp6.nb b8) (hps _ (Qgg hi2)).2 oo hDi hp6).mono fun e w' h=>⟨_,h.1,rfl,h.2⟩) fun v W4 h=>?_
  obtain ⟨rfl,q4,hDn⟩:=h
  have x4:=zbO xx1 q4 b8
  refine Qas <| hK14 _ _ <| Qaj <| sv (.int .i64 ((i+1:Nat):Int)) 16 (Qac (u:=.int .i64 (zal.wrap ((i:Int)+1))) kj (congrArg (zam .i64) (i64n _ _ oo oo))) <| sg 1 kj <| Qas ?_
  with_reducible repeat first | refine goX1 ?_ | refine goX2 ?_ | refine goX3 ?_
  exact Qa1 (i+1) ⟨kj,kj,kj,kj,kj,trivial⟩ ⟨oo,(by rw [Qfq hi2]; exact hDn),(Qai.but q3 q4 (.inl (by simp))),x4⟩ oo
 ·skip
  have heq10:i=n:=by have:=of_decide_eq_false c13; omega
  refine wp_exit <| hK9 _ _ <| sgC fun K16 hK16=>sg 1 kj ?_
  have r1_1:=(Qaa hc e1)
  have r1_2:=(Qaa r1_1 e2)
  have r1_3:=(zbT q3 r1_2 (Qaw (Qad r1_1 ld8) QaF))
  refine Qao (.agg (ints .u8 (dig (flat ps i)))) 107 #[pp gd8 0] 18 rfl kj kj (sumC gd8 _ tc _ r1_3 (by rw [heq10,Qea hn]; exact hlen) hDi) fun W4 e4=>?_
  have x4:=zbL xx1 e4
  have r5_4:=(Qaa (zbT q3 (Qaa r5_1 e2) (Qaw (Qad r5_1 ld8) QaF)) e4)
  refine Qag g5 _ (ints .u8 (dig (flat ps i))) 23 r5_4 rfl kj (Qaf 23 _ _ g5 23 _ _ r5_4 rfl kj kj (isz (n:=32) kj (izT (QaY _))) (eqsz (n:=32) (izT (qZ (n:=32))) (izT (QaY _))) (Qat _ _)) fun W5 p5 r5_5=>sgN hK16 <| wp_ret ?_
  with_reducible repeat first | refine goR1 ?_ | refine goR2 ?_
  exact (show bodyPost _ _ _ .ret _ _ from ret1 (.agg (ints .u8 (dig (flat ps i)))) rfl (QaJ g5 23 _ r5_5 kj kj (isz (n:=32) kj (izT (QaY _)))) ⟨by rw [heq10,Qea hn],(zbK p5 x4 (qT (zbH w).size l5))⟩)
end Sha
end
section
namespace Sha
open Go Go.RowKit
open Rely Auto Own
theorem Qju (x : Wd):Qak (wby x):=fun y hy=>by
  simp only [wby,zbb,zbc,or_false] at hy
  rcases hy with h | h | h | h <;> omega
theorem Qed (t : List Int):Qak (dig t):=fun y hy=>by
  unfold dig S8.out at hy
  obtain ⟨x,_,h⟩:=List.mem_flatMap.1 hy
  exact Qju x y h
def xorb (c x:Int):Int:=bits .xor .u8 x c
theorem Qjr (c x:Int):0≤xorb c x∧xorb c x≤255:=by
  unfold xorb bits
  have:∀ z:Int,zaf.wrap z=z%2^8:=fun _=>rfl
  rw [this]; omega
def keyL (key : List Int):List Int:=if 64<key.length then dig key else key
def keyB (key : List Int):List Int:=keyL key++zaj (64-(keyL key).length) 0
def padX (c : Int) (key:List Int):List Int:=(keyB key).map (xorb c)
def hmac (key t:List Int):List Int:=dig (padX 92 key++dig (padX 54 key++t))
theorem Qgs (key : List Int):(keyL key).length≤64:=by
  unfold keyL
  split
  · rw [QaY]; decide
  · omega
theorem Qb9 (key : List Int):(keyB key).length=64:=by
  have:=Qgs key
  simp [keyB]; omega
theorem QaC (c : Int) (key:List Int):(padX c key).length=64:=by rw [padX,zaF,Qb9]
theorem QcA (c : Int) (key:List Int):Qak (padX c key):=fun y hy=>by
  obtain ⟨x,_,rfl⟩:=zab.1 hy
  exact Qjr c x
theorem QcK (c : Int) (key:List Int) {i:Nat} (h:i<64):nth (padX c key) i=bits .xor .u8 (nth (keyB key) i) c:=by
  have hl:=Qb9 key
  show nth ((keyB key).map (xorb c)) i=xorb c (nth (keyB key) i)
  simp [nth,zac,show i<(keyB key).length by omega]
theorem QbL (key t:List Int):(hmac key t).length=32:=QaY _
theorem Qjh (key t:List Int):Qak (hmac key t):=Qed _
def puts (xs ys:List Int) (m:Nat):List Int:=xs.take m++ys.drop m
theorem QhZ {xs ys:List Int} {n m:Nat} (hx:xs.length=n) (hy:ys.length=n) (hm:m≤n):(puts xs ys m).length=n:=by simp [puts]; omega
theorem QgH (xs ys:List Int):puts xs ys 0=ys:=by simp [puts]
theorem QgI {xs ys:List Int} {n:Nat} (hx:xs.length=n) (hy:ys.length=n):puts xs ys n=xs:=by
  unfold puts
  rw [zaw oo,zaX oo,zbi]
theorem QhY {xs ys:List Int} {n m:Nat} (hx:xs.length=n) (hy:ys.length=n) (hm:m<n):(puts xs ys m).set m (nth xs m)=puts xs ys (m+1):=by
  unfold puts
  have hl:(xs.take m).length=m:=by rw [zai]; omega
  rw [zba _ _ oo,hl,zaB,List.drop_eq_getElem_cons oo,zaZ,zbd,zbe oo,zaR]
  simp [nth,show m<xs.length by omega]
section
variable {ds : List Deferred} {P : Program} {ops : Array Oper} {Q : Exit → Act → World → Prop} {rest : List Oper} {o : Oper} {N : Nat} {L : Env} {W : World}
theorem Qg7 {k : IntKind} {e:TypeId} (x y:Operand) (tx ty:TypeId) (d:Nat) (ho:o.op=.call { callee:=.builtin .copy,args:=#[x,y],argTypes:=#[tx,ty] }) (hu:P.underlying tx=some (.slice e)) (hsz:(P.info? e).map (·.size)=some 1) (hd:o.dst=some d) (hgd:Qbp ops o N L=some true)
    {g off dl dc n B:Nat} {xs z:List Int} {v:Value} {T:TypeId} (hx:Rely.look (envN N L) x=.slice (some ⟨g,off,none⟩) dl dc) (hy:Rely.look (envN N L) y=v) (hr:RdK k B z v W)
    (hg:W.heap[g]? = some (.cells (ints k xs) T)) (hq:off+dl≤xs.length) (hn:n=min z.length dl)
    (kk:∀ W':World,Puts W g W'→W'.heap[g]? = some (.cells (ints k (xs.take off++z.take n++xs.drop (off+n))) T)→WL P ops Q rest (Qav ds N ((d,.int .i64 (n:Int))::L)) W'):WL P ops Q (o::rest) (Qav ds N L) W:=by
  obtain ⟨a,cap,rfl,y2,y3,y4,y5⟩:=hr
  have hgo:∀ W',(Builtin.copy_ #[tx,ty] o.type #[.slice (some ⟨g,off,none⟩) dl dc,.slice a z.length cap]).run P W=.ok (goInt n) W'→(execOp (Rely.look (envN N L)) o).run P W=.ok (.value (.int .i64 (n:Int))) W':=fun W' h=>by
    unfold execOp
    simp only [ho,resolve,invoke,builtin,za0,za2,za1,zaT,zaU,zaV,hx,hy,h,goInt]
  rcases zbj n with h0 | h0
  · refine Qbs _ _ d hd hgd (hgo W ?_) (kk W ⟨rfl,rfl,rfl,rfl,fun _ _=>rfl⟩ ?_)
    · rw [h0]; exact run_copy_none W tx ty o.type e _ _ _ _ _ _ hu hsz (hn.symm.trans h0)
    · rw [h0,zas,zbi,zaD,zbg]; exact hg
  · obtain ⟨gz,oz,rfl,z2,z3,z4⟩:=y5.resolve_left (fun e=>by rw [e] at hn; simp at hn; omega)
    have hlen:((z.take n).map (zam k)).length=n:=by simp; omega
    have h:=run_copy_row (P:=P) W tx ty o.type e g off dl dc ⟨gz,oz,none⟩ z.length cap (ints k xs) T ((z.take n).map (zam k)) hu hsz hg (by rw [hlen]; exact hn)
      (Qh7 (k:=k) (ys:=z.take n) fun i hi=>by
        rw [zai] at hi
        rw [z4 i oo]
        simp [nth,show i<n by omega]) (by rw [hlen,Qbq]; omega) (Qh3 k _)
    rw [hlen] at h
    have e1:((ints k xs).toList.take off++(z.take n).map (zam k)++(ints k xs).toList.drop (off+n)).toArray=ints k (xs.take off++z.take n++xs.drop (off+n)):=by
      apply zaN
      show (xs.map (zam k)).take off++(z.take n).map (zam k)++(xs.map (zam k)).drop (off+n)=(xs.take off++z.take n++xs.drop (off+n)).map (zam k)
      simp only [zaO,zaP,zaQ]
    rw [e1] at h
    exact Qbs _ _ d hd hgd (hgo _ h) (kk _ (Qbe _ _ _) (setRow_heap _ _ _ _ _ _ hg))
end
theorem Qks {key : List Int} (h:64<key.length):(zaj 64 (0:Int)).take 0++(dig key).take 32++(zaj 64 (0:Int)).drop (0+32)=keyB key:=by
  have hd:=QaY key
  unfold keyB keyL
  rw [if_pos h,hd,zas,zap,zaw oo,zbk]
theorem Qjd {key : List Int} (h:¬ 64<key.length) (n:Nat) (hn:n=min key.length 64):(zaj 64 (0:Int)).take 0++key.take n++(zaj 64 (0:Int)).drop (0+n)=keyB key:=by
  unfold keyB keyL
  rw [if_neg h,zas,zap,zaw oo,zbk,show 64-(0+n)=64-key.length by omega]
end Sha
end
section
namespace Sha
open Go Go.RowKit
open Rely Auto Own
theorem Qpz (key : List Int) (v:Value) (B:Nat) (tc tq:TypeId) (w:World) (hc:w.heap[4]? = some (.cells (ints .u64 QaM) tc)) (hq:w.heap[3]? = some (.cells (ints .u64 Qa5) tq)) (hkb:Qak key) (hkl:key.length≤800000000) (hk:RdK .u8 B key v w) :
  Calls Tryz.prog 104 #[v] w (Ret w (.tuple #[.agg (ints .u8 (padX 54 key)),.agg (ints .u8 (padX 92 key))])):=by
 obtain ⟨a_key,c_key,rfl,-⟩:=id hk
 refine enter 35 [(0,.slice a_key key.length c_key)] Tryz.func104 rfl rfl kj rfl <| sgC fun K3 hK3=>Qah (ints .u8 (zaj 64 0)) 120 2 rfl kj kj fun g4 W1 l4 e1 r4_1=>?_
 have x1:=zbL (zbH w) e1
 have b4:=qT (zbH w).size l4
 refine Qah (ints .u8 (zaj 64 0)) 120 3 rfl kj kj fun g5 W2 l5 e2 r5_2=>?_
 have x2:=zbL x1 e2
 have b5:=qT x1.size l5
 refine sgN hK3 <| wp_seq_k fun K6 hK6=>sgB kj <| Qay (t:=decide ((key.length:Int)>64)) kj (fun c8=>?_) (fun c8=>?_)
 ·skip
  have hlong:64<key.length:=by have:=of_decide_eq_true c8; omega
  refine sgC fun K9 hK9=>sg 1 kj <| QaA (#[.slice a_key key.length c_key]) 41 1 11 rfl kj kj fun g10 W3 l10 e3 r10_3=>?_
  have x3:=zbL x2 e3
  have b10:=qT x2.size l10
  have hps11:∀ p∈([(.slice a_key key.length c_key,key)]:List (Value×List Int)),RdK .u8 W3.heap.size p.2 p.1 W3∧Qak p.2:=by
   intro p hp
   simp only [zbb,zbc,or_false] at hp
   rcases hp with rfl
   ·exact ⟨zbW (zbQ hk x3),hkb⟩
  have hsh11:=Qmn g10 1 _ ([(.slice a_key key.length c_key,key)]:List (Value×List Int)) rfl dd tc tq W3 (Qaa (Qaa (Qaa hc e1) e2) e3) (Qaa (Qaa (Qaa hq e1) e2) e3) r10_3 hps11 (by simp only [zaU,zaV,zbl,zbm,zbi,za6]; omega)
  rw [show ((zbn Prod.snd ([(.slice a_key key.length c_key,key)]:List (Value×List Int))).flatten)=key by simp only [zaU,zaV,zbl,zbm,zbi]] at hsh11
  refine Qao (.agg (ints .u8 (dig (key)))) 108 #[.slice (some ⟨g10,0,none⟩) 1 1] 12 rfl kj kj hsh11 fun W4 e4=>?_
  have x4:=zbL x3 e4
  refine Qah (ints .u8 (zaj 32 0)) 23 4 rfl kj kj fun g12 W5 l12 e5 r12_5=>?_
  have x5:=zbL x4 e5
  refine Qag g12 _ (ints .u8 (dig (key))) 23 r12_5 rfl kj (Qaf 23 _ _ g12 23 _ _ r12_5 rfl kj kj (isz (n:=32) kj (izT (QaY _))) (eqsz (n:=32) (izT (qZ (n:=32))) (izT (QaY _))) (Qat _ _)) fun W6 p6 r12_6=>?_
  have x6:=zbK p6 x5 (qT x4.size l12)
  refine sgN hK9 <| QaT 2 [⟨none,[(2,none)]⟩,⟨none,[(4,none)]⟩] kj kj fun F hF=>Qa2 (Qam _) (.slice (some ⟨g4,0,none⟩) 64 64) kj kj (fun _=>kj) <| Qa2 (Qam _) (.slice (some ⟨g12,0,none⟩) 32 32) kj kj (fun _=>kj) <| Qc3 (hF _ fun W7 e7=>?_)
  simp only [zap,zaq,zar,zas,zat,zau,finE,up]
  clear hF
  have x7:=zbL x6 e7
  have r4_2:=(Qaa r4_1 e2)
  have r4_3:=(Qaa r4_2 e3)
  have r4_4:=(Qaa r4_3 e4)
  have r4_5:=(Qaa r4_4 e5)
  have r4_6:=(zbJ p6 r4_5 (Qad r4_4 l12))
  have r4_7:=(Qaa r4_6 e7)
  have r12_7:=(Qaa r12_6 e7)
  refine Qg7 (k:=.u8) (e:=5) (z:=dig (key)) (.tmp 13) (.tmp 14) 41 41 15 rfl kj kj rfl kj (off:=0) (dl:=64) (dc:=64) (n:=32) (xs:=zaj 64 0) kj kj (QaL (xs:=dig (key)) (n:=32) (QaY _) r12_7 (Qaq r12_7) (show 32≤maxLen from by decide)) r4_7 (qT (show 0+(64)≤64 from oo) (qE (qZ (n:=64)).symm)) (by rw [QaY]; rfl) fun W8 p8 r4_8=>?_
  refine Qas <| hK6 _ _ <| wp_seq_k fun K13 hK13=>sgC fun K14 hK14=>?_
  have r4_8_15:W8.heap[g4]? = some (.cells (ints .u8 (keyB key)) 120):=Qa9 r4_8 (Qks hlong)
  refine sv (.agg (ints .u8 (keyB key))) 19 (Qae 120 _ g4 120 _ _ r4_8_15 rfl kj kj (isz (n:=64) kj (izT (Qb9 key)))) <| sg 1 kj <| sgN hK14 <| wp_block ?_
  have n_4_5:g4≠g5:=(Qad r4_1 l5)
  have n_5_4:g5≠g4:=(QaI r4_1 l5)
  have r5_3:=(Qaa r5_2 e3)
  have r5_4:=(Qaa r5_3 e4)
  have r5_5:=(Qaa r5_4 e5)
  have r5_6:=(zbJ p6 r5_5 (Qad r5_4 l12))
  have r5_7:=(Qaa r5_6 e7)
  refine Qa3 (fun (s1:Nat)=>[(2,pp g4 0),(3,pp g5 0),(19,.agg (ints .u8 (keyB key))),(20,.int .i64 (s1:Int))]) (fun (s1:Nat) W=>(s1≤64)∧(W.heap[g4]? = some (.cells (ints .u8 (puts (padX 54 key) (keyB key) s1)) 120))∧(W.heap[g5]? = some (.cells (ints .u8 (fill (padX 92 key) 64 s1)) 120))∧(Qai [g4,g5] W8 W)∧(Ext w W)) (fun (s1:Nat)=>64-s1) 0 ⟨kj,kj,kj,kj,trivial⟩ ⟨(zak _),(Qa9 r4_8_15 (QgH _ _).symm),(Qa9 (zbJ p8 r5_7 n_5_4) (QcE _ 64).symm),(zbS [g4,g5] W8),(zbK p8 x7 b4)⟩ fun s1 X1 V1 hI1=>?_
  obtain ⟨i,hs1⟩:∃ z,z=s1:=⟨_,rfl⟩
  subst hs1
  obtain ⟨hi,q4_1,q5_1,kk1,xx1⟩:=hI1
  replace hi:i≤64:=hi
  replace q4_1:V1.heap[g4]? = some (.cells (ints .u8 (puts (padX 54 key) (keyB key) i)) 120):=q4_1
  replace q5_1:V1.heap[g5]? = some (.cells (ints .u8 (fill (padX 92 key) 64 i)) 120):=q5_1
  replace kk1:Qai [g4,g5] W8 V1:=kk1
  replace xx1:Ext w V1:=xx1
  have q9:=kk1
  refine sgB kj <| wp_seq_k fun K17 hK17=>Qay (t:=decide ((i:Int)<64)) kj (fun c18=>?_) (fun c18=>?_)
  ·skip
   have hlt21:i<64:=by have:=of_decide_eq_true c18; omega
   refine wp_skip <| hK17 _ _ <| wp_seq_k fun K19 hK19=>wp_block <| sgC fun K20 hK20=>sg 1 kj <| sv (.int .u8 (nth (keyB key) i)) 23 (QaE 120 _ _ .i64 .u8 (keyB key) i 64 5 (nth (keyB key) i) rfl kj kj kj kj kj (Qb9 key) oo rfl) <| sg 2 kj <| sgN hK20 <| Qaj ?_
   refine sg 3 kj <| sv (.int .u8 (nth (padX 54 key) i)) 27 (Qac (u:=.int .u8 (bits .xor .u8 ((nth (keyB key) i)) (54))) kj (congrArg (zam .u8) (QcK 54 key hlt21).symm)) <| sg 1 kj <| sv (.int .u8 (nth (padX 92 key) i)) 29 (Qac (u:=.int .u8 (bits .xor .u8 ((nth (keyB key) i)) (92))) kj (congrArg (zam .u8) (QcK 92 key hlt21).symm)) <| sv (pp g4 i) 30 (Qa7 _ _ _ .i64 (i) _ 64 5 rfl kj kj kj kj oo) <| Qag g4 _ (ints .u8 ((puts (padX 54 key) (keyB key) i).set i (nth (padX 54 key) i))) 120 q4_1 rfl kj (Qa0 5 _ _ g4 i 120 _ _ q4_1 rfl kj kj kj (zan oo (QhZ (QaC 54 key) (Qb9 key) oo).symm)) fun W10 p10 r4_10=>?_
   have x10:=zbK p10 xx1 b4
   refine sv (pp g5 i) 31 (Qa7 _ _ _ .i64 (i) _ 64 5 rfl kj kj kj kj oo) ?_
   have r5_10:=(zbJ p10 q5_1 n_5_4)
   refine Qag g5 _ (ints .u8 ((fill (padX 92 key) 64 i).set i (nth (padX 92 key) i))) 120 r5_10 rfl kj (Qa0 5 _ _ g5 i 120 _ _ r5_10 rfl kj kj kj (zan oo (Qb4 (QaC 92 key) oo).symm)) fun W11 p11 r5_11=>?_
   have x11:=zbK p11 x10 b5
   refine Qas <| hK19 _ _ <| Qaj <| sv (.int .i64 ((i+1:Nat):Int)) 32 (Qac (u:=.int .i64 (zal.wrap ((i:Int)+1))) kj (congrArg (zam .i64) (i64n _ _ oo oo))) <| sg 1 kj <| Qas ?_
   have r4_11:=(zbJ p11 r4_10 n_4_5)
   with_reducible repeat first | refine goX1 ?_ | refine goX2 ?_ | refine goX3 ?_
   exact Qa1 (i+1) ⟨kj,kj,kj,kj,trivial⟩ ⟨oo,(Qa9 r4_11 (QhY (QaC 54 key) (Qb9 key) hlt21)),(Qa9 r5_11 (Qcl (QaC 92 key) hlt21)),(zbV (zbV q9 p10 (.inl (by simp))) p11 (.inl (by simp))),x11⟩ oo
  ·skip
   have heq21:i=64:=by have:=of_decide_eq_false c18; omega
   have r4_9_21:V1.heap[g4]? = some (.cells (ints .u8 (padX 54 key)) 120):=Qa9 q4_1 (by rw [heq21]; exact QgI (QaC 54 key) (Qb9 key))
   have r5_9_22:V1.heap[g5]? = some (.cells (ints .u8 (padX 92 key)) 120):=Qa9 q5_1 (by rw [heq21]; exact QcF (QaC 92 key))
   refine wp_exit <| hK13 _ _ <| wp_seq_k fun K23 hK23=>Qce (fun W=>W.heap[g5]? = some (.cells (ints .u8 (padX 92 key)) 120)) [⟨none,[(2,none)]⟩,⟨none,[(3,none)]⟩,⟨none,[(2,none),(33,some 0)]⟩,⟨none,[(3,none),(34,some 1)]⟩] [] [1] kj kj kj (fun W hR=>Qaa r5_9_22 hR) fun F hF=>Qcf (.agg (ints .u8 (padX 54 key))) kj kj kj rfl (fun W hR=>(Qae 120 _ g4 120 _ _ (Qaa (Qaa r4_9_21 (Qan _)) hR) rfl kj kj (isz (n:=64) kj (izT (QaC 54 key))))) <| QeZ (.agg (ints .u8 (padX 92 key))) kj kj kj rfl (fun W hW=>(Qae 120 _ g5 120 _ _ hW rfl kj kj (isz (n:=64) kj (izT (QaC 92 key))))) <| Qc1 rfl <| Qc1 rfl <| Qho (hF _ kj fun W10 e10=>?_)
   simp only [zap,zaq,fins,up]
   clear hF
   have x10:=zbL xx1 e10
   have r4_10:=(Qaa r4_9_21 e10)
   have r5_10:=(Qaa r5_9_22 e10)
   refine Qcw _ g4 _ (ints .u8 (padX 54 key)) 120 r4_10 rfl (Qaf 120 _ _ g4 120 _ _ r4_10 rfl kj kj (isz (n:=64) kj (izT (QaC 54 key))) (eqsz (n:=64) (izT (QaC 54 key)) (izT (QaC 54 key))) (Qat _ _)) (fun W hp=>zbJ hp r5_10 n_5_4) fun W11 p11 r4_11=>?_
   have x11:=zbK p11 x10 b4
   have r5_11:=(zbJ p11 r5_10 n_5_4)
   refine Qg1 _ g5 _ (ints .u8 (padX 92 key)) 120 r5_11 rfl (Qaf 120 _ _ g5 120 _ _ r5_11 rfl kj kj (isz (n:=64) kj (izT (QaC 92 key))) (eqsz (n:=64) (izT (QaC 92 key)) (izT (QaC 92 key))) (Qat _ _)) (fun W hp hrw=>hrw) fun W12 p12 r5_12=>QeW <| hK23 _ _ <| wp_ret ?_
   with_reducible repeat first | refine goR1 ?_ | refine goR2 ?_
   exact (show bodyPost _ _ _ .ret _ _ from ret2 (.agg (ints .u8 (padX 54 key))) (.agg (ints .u8 (padX 92 key))) rfl (QaJ g4 120 _ (zbJ p12 r4_11 n_4_5) kj kj (isz (n:=64) kj (izT (QaC 54 key)))) (QaJ g5 120 _ r5_12 kj kj (isz (n:=64) kj (izT (QaC 92 key)))) ⟨rfl,(zbK p12 x11 b5)⟩)
 ·skip
  have hlong:¬ 64<key.length:=by have:=of_decide_eq_false c8; omega
  refine Qaj <| sg 2 kj ?_
  have r4_2:=(Qaa r4_1 e2)
  refine Qg7 (k:=.u8) (e:=5) (z:=key) (.tmp 16) (.tmp 17) 41 41 18 rfl kj kj rfl kj (off:=0) (dl:=64) (dc:=64) (n:=(min key.length 64)) (xs:=zaj 64 0) kj kj (zbQ hk x2) r4_2 (qT (show 0+(64)≤64 from oo) (qE (qZ (n:=64)).symm)) rfl fun W3 p3 r4_3=>?_
  have x3:=zbK p3 x2 b4
  refine Qas <| hK6 _ _ <| wp_seq_k fun K24 hK24=>sgC fun K25 hK25=>?_
  have r4_3_26:W3.heap[g4]? = some (.cells (ints .u8 (keyB key)) 120):=Qa9 r4_3 (Qjd hlong _ rfl)
  refine sv (.agg (ints .u8 (keyB key))) 19 (Qae 120 _ g4 120 _ _ r4_3_26 rfl kj kj (isz (n:=64) kj (izT (Qb9 key)))) <| sg 1 kj <| sgN hK25 <| wp_block ?_
  have n_4_5:g4≠g5:=(Qad r4_1 l5)
  have n_5_4:g5≠g4:=(QaI r4_1 l5)
  have r5_3:=(zbJ p3 r5_2 n_5_4)
  refine Qa3 (fun (s2:Nat)=>[(2,pp g4 0),(3,pp g5 0),(19,.agg (ints .u8 (keyB key))),(20,.int .i64 (s2:Int))]) (fun (s2:Nat) W=>(s2≤64)∧(W.heap[g4]? = some (.cells (ints .u8 (puts (padX 54 key) (keyB key) s2)) 120))∧(W.heap[g5]? = some (.cells (ints .u8 (fill (padX 92 key) 64 s2)) 120))∧(Qai [g4,g5] W3 W)∧(Ext w W)) (fun (s2:Nat)=>64-s2) 0 ⟨kj,kj,kj,kj,trivial⟩ ⟨(zak _),(Qa9 r4_3_26 (QgH _ _).symm),(Qa9 r5_3 (QcE _ 64).symm),(zbS [g4,g5] W3),x3⟩ fun s2 X2 V2 hI2=>?_
  obtain ⟨i,hs2⟩:∃ z,z=s2:=⟨_,rfl⟩
  subst hs2
  obtain ⟨hi,q4_2,q5_2,kk2,xx2⟩:=hI2
  replace hi:i≤64:=hi
  replace q4_2:V2.heap[g4]? = some (.cells (ints .u8 (puts (padX 54 key) (keyB key) i)) 120):=q4_2
  replace q5_2:V2.heap[g5]? = some (.cells (ints .u8 (fill (padX 92 key) 64 i)) 120):=q5_2
  replace kk2:Qai [g4,g5] W3 V2:=kk2
  replace xx2:Ext w V2:=xx2
  have q4:=kk2
  refine sgB kj <| wp_seq_k fun K28 hK28=>Qay (t:=decide ((i:Int)<64)) kj (fun c29=>?_) (fun c29=>?_)
  ·skip
   have hlt21:i<64:=by have:=of_decide_eq_true c29; omega
   refine wp_skip <| hK28 _ _ <| wp_seq_k fun K30 hK30=>wp_block <| sgC fun K31 hK31=>sg 1 kj <| sv (.int .u8 (nth (keyB key) i)) 23 (QaE 120 _ _ .i64 .u8 (keyB key) i 64 5 (nth (keyB key) i) rfl kj kj kj kj kj (Qb9 key) oo rfl) <| sg 2 kj <| sgN hK31 <| Qaj ?_
   refine sg 3 kj <| sv (.int .u8 (nth (padX 54 key) i)) 27 (Qac (u:=.int .u8 (bits .xor .u8 ((nth (keyB key) i)) (54))) kj (congrArg (zam .u8) (QcK 54 key hlt21).symm)) <| sg 1 kj <| sv (.int .u8 (nth (padX 92 key) i)) 29 (Qac (u:=.int .u8 (bits .xor .u8 ((nth (keyB key) i)) (92))) kj (congrArg (zam .u8) (QcK 92 key hlt21).symm)) <| sv (pp g4 i) 30 (Qa7 _ _ _ .i64 (i) _ 64 5 rfl kj kj kj kj oo) <| Qag g4 _ (ints .u8 ((puts (padX 54 key) (keyB key) i).set i (nth (padX 54 key) i))) 120 q4_2 rfl kj (Qa0 5 _ _ g4 i 120 _ _ q4_2 rfl kj kj kj (zan oo (QhZ (QaC 54 key) (Qb9 key) oo).symm)) fun W5 p5 r4_5=>?_
   have x5:=zbK p5 xx2 b4
   refine sv (pp g5 i) 31 (Qa7 _ _ _ .i64 (i) _ 64 5 rfl kj kj kj kj oo) ?_
   have r5_5:=(zbJ p5 q5_2 n_5_4)
   refine Qag g5 _ (ints .u8 ((fill (padX 92 key) 64 i).set i (nth (padX 92 key) i))) 120 r5_5 rfl kj (Qa0 5 _ _ g5 i 120 _ _ r5_5 rfl kj kj kj (zan oo (Qb4 (QaC 92 key) oo).symm)) fun W6 p6 r5_6=>?_
   have x6:=zbK p6 x5 b5
   refine Qas <| hK30 _ _ <| Qaj <| sv (.int .i64 ((i+1:Nat):Int)) 32 (Qac (u:=.int .i64 (zal.wrap ((i:Int)+1))) kj (congrArg (zam .i64) (i64n _ _ oo oo))) <| sg 1 kj <| Qas ?_
   have r4_6:=(zbJ p6 r4_5 n_4_5)
   with_reducible repeat first | refine goX1 ?_ | refine goX2 ?_ | refine goX3 ?_
   exact Qa1 (i+1) ⟨kj,kj,kj,kj,trivial⟩ ⟨oo,(Qa9 r4_6 (QhY (QaC 54 key) (Qb9 key) hlt21)),(Qa9 r5_6 (Qcl (QaC 92 key) hlt21)),(zbV (zbV q4 p5 (.inl (by simp))) p6 (.inl (by simp))),x6⟩ oo
  ·skip
   have heq21:i=64:=by have:=of_decide_eq_false c29; omega
   have r4_4_32:V2.heap[g4]? = some (.cells (ints .u8 (padX 54 key)) 120):=Qa9 q4_2 (by rw [heq21]; exact QgI (QaC 54 key) (Qb9 key))
   have r5_4_33:V2.heap[g5]? = some (.cells (ints .u8 (padX 92 key)) 120):=Qa9 q5_2 (by rw [heq21]; exact QcF (QaC 92 key))
   refine wp_exit <| hK24 _ _ <| wp_seq_k fun K34 hK34=>Qce (fun W=>W.heap[g5]? = some (.cells (ints .u8 (padX 92 key)) 120)) [⟨none,[(2,none)]⟩,⟨none,[(3,none)]⟩,⟨none,[(2,none),(33,some 0)]⟩,⟨none,[(3,none),(34,some 1)]⟩] [] [1] kj kj kj (fun W hR=>Qaa r5_4_33 hR) fun F hF=>Qcf (.agg (ints .u8 (padX 54 key))) kj kj kj rfl (fun W hR=>(Qae 120 _ g4 120 _ _ (Qaa (Qaa r4_4_32 (Qan _)) hR) rfl kj kj (isz (n:=64) kj (izT (QaC 54 key))))) <| QeZ (.agg (ints .u8 (padX 92 key))) kj kj kj rfl (fun W hW=>(Qae 120 _ g5 120 _ _ hW rfl kj kj (isz (n:=64) kj (izT (QaC 92 key))))) <| Qc1 rfl <| Qc1 rfl <| Qho (hF _ kj fun W5 e5=>?_)
   simp only [zap,zaq,fins,up]
   clear hF
   have x5:=zbL xx2 e5
   have r4_5:=(Qaa r4_4_32 e5)
   have r5_5:=(Qaa r5_4_33 e5)
   refine Qcw _ g4 _ (ints .u8 (padX 54 key)) 120 r4_5 rfl (Qaf 120 _ _ g4 120 _ _ r4_5 rfl kj kj (isz (n:=64) kj (izT (QaC 54 key))) (eqsz (n:=64) (izT (QaC 54 key)) (izT (QaC 54 key))) (Qat _ _)) (fun W hp=>zbJ hp r5_5 n_5_4) fun W6 p6 r4_6=>?_
   have x6:=zbK p6 x5 b4
   have r5_6:=(zbJ p6 r5_5 n_5_4)
   refine Qg1 _ g5 _ (ints .u8 (padX 92 key)) 120 r5_6 rfl (Qaf 120 _ _ g5 120 _ _ r5_6 rfl kj kj (isz (n:=64) kj (izT (QaC 92 key))) (eqsz (n:=64) (izT (QaC 92 key)) (izT (QaC 92 key))) (Qat _ _)) (fun W hp hrw=>hrw) fun W7 p7 r5_7=>?_
   have x7:=zbK p7 x6 b5
   refine QeW <| hK34 _ _ <| wp_ret ?_
   with_reducible repeat first | refine goR1 ?_ | refine goR2 ?_
   have r4_7:=(zbJ p7 r4_6 n_4_5)
   exact (show bodyPost _ _ _ .ret _ _ from ret2 (.agg (ints .u8 (padX 54 key))) (.agg (ints .u8 (padX 92 key))) rfl (QaJ g4 120 _ r4_7 kj kj (isz (n:=64) kj (izT (QaC 54 key)))) (QaJ g5 120 _ r5_7 kj kj (isz (n:=64) kj (izT (QaC 92 key)))) ⟨rfl,x7⟩)
end Sha
end
section
namespace Sha
open Go Go.RowKit
open Rely Auto Own
theorem tagC (key : List Int) (v:Value) (B:Nat) (gp n:Nat) (Tp:TypeId) (ps:List (Value×List Int)) (hn:ps.length=n) (hn9:n≤1000000) (tc tq:TypeId) (w:World) (hc:w.heap[4]? = some (.cells (ints .u64 QaM) tc)) (hq:w.heap[3]? = some (.cells (ints .u64 Qa5) tq)) (hkb:Qak key) (hkl:key.length≤800000000) (hk:RdK .u8 B key v w) (hrow:w.heap[gp]? = some (.cells (ps.map Prod.fst).toArray Tp)) (hps:∀ p∈ps,RdK .u8 w.heap.size p.2 p.1 w∧Qak p.2) (hlen:((ps.map Prod.snd).flatten).length≤800000000) :
  Calls Tryz.prog 97 #[v,.slice (some ⟨gp,0,none⟩) n n] w (Ret w (.agg (ints .u8 (hmac key ((ps.map Prod.snd).flatten))))):=by
 obtain ⟨a_key,c_key,rfl,-⟩:=id hk
 refine enter 36 [(0,.slice a_key key.length c_key),(1,.slice (some ⟨gp,0,none⟩) n n)] Tryz.func97 rfl rfl kj rfl <| sgC fun K4 hK4=>Qah (ints .u8 (zaj 32 0)) 23 4 rfl kj kj fun g5 W1 l5 e1 r5_1=>?_
 have x1:=zbL (zbH w) e1
 refine sgN hK4 <| sgC fun K6 hK6=>sg 1 kj ?_
 have r1_1:=(Qaa hc e1)
 have r2_1:=(Qaa hq e1)
 refine Qao (.tuple #[.agg (ints .u8 (padX 54 key)),.agg (ints .u8 (padX 92 key))]) 104 #[.slice a_key key.length c_key] 13 rfl kj kj (Qpz key _ B tc tq _ r1_1 r2_1 hkb oo (zbQ hk x1)) fun W2 e2=>?_
 have x2:=zbL x1 e2
 refine sg 3 kj <| Qah (ints .u8 (zaj 64 0)) 120 5 rfl kj kj fun g7 W3 l7 e3 r7_3=>?_
 have x3:=zbL x2 e3
 refine Qah (ints .u8 (zaj 64 0)) 120 6 rfl kj kj fun g8 W4 l8 e4 r8_4=>?_
 have r7_4:=(Qaa r7_3 e4)
 refine Qag g7 _ (ints .u8 (padX 54 key)) 120 r7_4 rfl kj (Qaf 120 _ _ g7 120 _ _ r7_4 rfl kj kj (isz (n:=64) kj (izT (QaC 54 key))) (eqsz (n:=64) (izT (qZ (n:=64))) (izT (QaC 54 key))) (Qat _ _)) fun W5 p5 r7_5=>?_
 have r8_5:=(zbJ p5 r8_4 (QaI r7_3 l8))
 refine Qag g8 _ (ints .u8 (padX 92 key)) 120 r8_5 rfl kj (Qaf 120 _ _ g8 120 _ _ r8_5 rfl kj kj (isz (n:=64) kj (izT (QaC 92 key))) (eqsz (n:=64) (izT (qZ (n:=64))) (izT (QaC 92 key))) (Qat _ _)) fun W6 p6 r8_6=>?_
 have x6:=zbK p6 (zbK p5 (zbL x3 e4) (qT x2.size l7)) (qT x3.size l8)
 refine sgN hK6 <| sgC fun K9 hK9=>?_
 have r2_2:=(Qaa r2_1 e2)
 have r2_3:=(Qaa r2_2 e3)
 have r2_6:=(zbJ p6 (zbJ p5 (Qaa r2_3 e4) (Qad r2_2 l7)) (Qad r2_3 l8))
 refine Qau (fun v W'=>(fun v W=>∃ g,v=pp g 0∧W6.heap.size≤g∧HasD g [] W) v W'∧Ext W6 W') 105 #[] 16 rfl kj kj ((newC tq _ r2_6).mono mo1) fun vv10 W7 hh10=>?_
 obtain ⟨hv10,e7⟩:=hh10
 obtain ⟨gd11,rfl,ld11,hD11⟩:=hv10
 have b11:=qT x6.size ld11
 refine sg 1 kj <| sgN hK9 <| sgC fun K12 hK12=>sg 2 kj ?_
 have r1_2:=(Qaa r1_1 e2)
 have r1_3:=(Qaa r1_2 e3)
 have r1_6:=(zbJ p6 (zbJ p5 (Qaa r1_3 e4) (Qad r1_2 l7)) (Qad r1_3 l8))
 have r1_7:=(Qaa r1_6 e7)
 have r7_6:=(zbJ p6 r7_5 (Qad r7_3 l8))
 have r7_7:=(Qaa r7_6 e7)
 refine Qau (fun v W'=>v=.tuple #[]∧ExtB gd11 W7 W'∧HasD gd11 (padX 54 key) W') 106 #[pp gd11 0,.slice (some ⟨g7,0,none⟩) 64 64] 19 rfl kj kj ((addC gd11 _ [] (padX 54 key) (.slice (some ⟨g7,0,none⟩) 64 64) tc _ r1_7 (zbh (qL (Qaq hc) b11)) (.inr (fun e=>(Qad r7_6 ld11) (Option.some.inj e))) (QcA _ _) (by rw [QaC]; decide) (hD11) (QaL (xs:=padX 54 key) (n:=64) (QaC 54 key) r7_7 (Qaq r7_7) (show 64≤maxLen from by decide))).mono fun e w' h=>⟨_,h.1,rfl,h.2⟩) fun v W8 h=>?_
 obtain ⟨rfl,q8,hDp⟩:=h
 refine sgN hK12 <| wp_seq_k fun K13 hK13=>sgB kj <| wp_block <| Qa3 (fun (s1:Nat)=>[(20,.slice (some ⟨gp,0,none⟩) n n),(21,.int .i64 (n:Int)),(22,.int .i64 (s1:Int)),(7,pp gd11 0),(4,pp g5 0),(6,pp g8 0)]) (fun (s1:Nat) W=>(s1≤n)∧(HasD gd11 (padX 54 key++flat ps s1) W)∧(Qai [gd11] W8 W)∧(Ext w W)) (fun (s1:Nat)=>n-s1) 0 ⟨kj,kj,kj,kj,kj,kj,trivial⟩ ⟨(zak _),(show HasD _ (padX 54 key++flat ps 0) _ from (zbi (padX 54 key)).symm▸hDp),(zbS [gd11] W8),(zbO (zbL x6 e7) q8 b11)⟩ fun s1 X1 V1 hI1=>?_
 obtain ⟨i,hs1⟩:∃ z,z=s1:=⟨_,rfl⟩
 subst hs1
 obtain ⟨hi,hDi,kk1,xx1⟩:=hI1
 replace hi:i≤n:=hi
 replace hDi:HasD gd11 (padX 54 key++flat ps i) V1:=hDi
 replace kk1:Qai [gd11] W8 V1:=kk1
 replace xx1:Ext w V1:=xx1
 have q9:=kk1
 refine sgB kj <| wp_seq_k fun K16 hK16=>Qay (t:=decide ((i:Int)<(n:Int))) kj (fun c17=>?_) (fun c17=>?_)
 ·skip
  have hlt23:i<n:=by have:=of_decide_eq_true c17; omega
  refine wp_skip <| hK16 _ _ <| wp_seq_k fun K18 hK18=>wp_block <| sgC fun K19 hK19=>?_
  have hi2:i<ps.length:=by omega
  refine sv (pp gp i) 24 (Qbr 143 _ _ .i64 i gp n n 41 rfl kj kj kj kj hlt23) ?_
  have r3_2:=(Qaa (Qaa hrow e1) e2)
  have r3_3:=(Qaa r3_2 e3)
  have r3_6:=(zbJ p6 (zbJ p5 (Qaa r3_3 e4) (Qad r3_2 l7)) (Qad r3_3 l8))
  refine sv ((pat ps i).1) 25 (QaB 41 _ _ ((pat ps i).1) (Qdc (zbT q9 (zbN q8 (Qaa r3_6 e7) (Qad r3_6 ld11)) (Qaw (Qad r3_6 ld11) QaF)) (Qmq hi2)) rfl kj kj) <| sg 1 kj <| sgN hK19 <| Qaj <| sg 2 kj ?_
  have r1_8:=(zbN q8 r1_7 (Qad r1_6 ld11))
  have r1_9:=(zbT q9 r1_8 (Qaw (Qad r1_6 ld11) QaF))
  have hp6:=(hps _ (Qgg hi2)).1.ext xx1
  have hl6:=Qk4 hi2
  refine Qau (fun v W'=>v=.tuple #[]∧ExtB gd11 V1 W'∧HasD gd11 ((padX 54 key++flat ps i)++(pat ps i).2) W') 106 #[pp gd11 0,(pat ps i).1] 28 rfl kj kj ((addC gd11 _ _ _ _ tc _ r1_9 (zbh (qL (Qaq hc) b11)) (hp6.nb b11) (hps _ (Qgg hi2)).2 (by rw [za6,QaC]; omega) hDi hp6).mono fun e w' h=>⟨_,h.1,rfl,h.2⟩) fun v W10 h=>?_
  obtain ⟨rfl,q10,hDn⟩:=h
  have x10:=zbO xx1 q10 b11
  refine Qas <| hK18 _ _ <| Qaj <| sv (.int .i64 ((i+1:Nat):Int)) 29 (Qac (u:=.int .i64 (zal.wrap ((i:Int)+1))) kj (congrArg (zam .i64) (i64n _ _ oo oo))) <| sg 1 kj <| Qas ?_
  with_reducible repeat first | refine goX1 ?_ | refine goX2 ?_ | refine goX3 ?_
  exact Qa1 (i+1) ⟨kj,kj,kj,kj,kj,kj,trivial⟩ ⟨oo,(by rw [Qfq hi2,←zaR]; exact hDn),(Qai.but q9 q10 (.inl (by simp))),x10⟩ oo
 ·skip
  have heq23:i=n:=by have:=of_decide_eq_false c17; omega
  refine wp_exit <| hK13 _ _ <| sgC fun K20 hK20=>sg 1 kj ?_
  have r1_8:=(zbN q8 r1_7 (Qad r1_6 ld11))
  have r1_9:=(zbT q9 r1_8 (Qaw (Qad r1_6 ld11) QaF))
  refine Qao (.agg (ints .u8 (dig (padX 54 key++flat ps i)))) 107 #[pp gd11 0] 31 rfl kj kj (sumC gd11 _ tc _ r1_9 (by rw [heq23,Qea hn,za6,QaC]; omega) hDi) fun W10 e10=>?_
  have x10:=zbL xx1 e10
  refine Qah (ints .u8 (zaj 32 0)) 23 10 rfl kj kj fun g21 W11 l21 e11 r21_11=>Qag g21 _ (ints .u8 (dig (padX 54 key++flat ps i))) 23 r21_11 rfl kj (Qaf 23 _ _ g21 23 _ _ r21_11 rfl kj kj (isz (n:=32) kj (izT (QaY _))) (eqsz (n:=32) (izT (qZ (n:=32))) (izT (QaY _))) (Qat _ _)) fun W12 p12 r21_12=>sgN hK20 <| wp_seq_k fun K22 hK22=>QaT 2 [⟨none,[(6,none)]⟩,⟨none,[(10,none)]⟩] kj kj fun F hF=>Qa2 (Qam _) (.slice (some ⟨g8,0,none⟩) 64 64) kj kj (fun _=>kj) <| Qa2 (Qam _) (.slice (some ⟨g21,0,none⟩) 32 32) kj kj (fun _=>kj) <| Qc3 (hF _ fun W13 e13=>?_)
  simp only [zap,zaq,zar,zas,zat,zau,finE,up]
  clear hF
  have x13:=zbL (zbK p12 (zbL x10 e11) (qT x10.size l21)) e13
  refine QaA (#[.slice (some ⟨g8,0,none⟩) 64 64,.slice (some ⟨g21,0,none⟩) 32 32]) 41 2 34 rfl kj kj fun g23 W14 l23 e14 r23_14=>?_
  have b23:=qT x13.size l23
  have r8_10:=(Qaa (zbT q9 (zbN q8 (Qaa r8_6 e7) (Qad r8_6 ld11)) (Qaw (Qad r8_6 ld11) QaF)) e10)
  have r8_14:=(Qaa (Qaa (rpn p12 r8_10 e11 l21) e13) e14)
  have r21_14:=(Qaa (Qaa r21_12 e13) e14)
  have r1_10:=(Qaa r1_9 e10)
  have r2_10:=(Qaa (zbT q9 (zbN q8 (Qaa r2_6 e7) (Qad r2_6 ld11)) (Qaw (Qad r2_6 ld11) QaF)) e10)
  have hps24:∀ p∈([(.slice (some ⟨g8,0,none⟩) 64 64,padX 92 key),(.slice (some ⟨g21,0,none⟩) 32 32,dig (padX 54 key++flat ps i))]:List (Value×List Int)),RdK .u8 W14.heap.size p.2 p.1 W14∧Qak p.2:=by
   intro p hp
   simp only [zbb,zbc,or_false] at hp
   rcases hp with rfl | rfl
   ·exact ⟨zbW (QaL (xs:=padX 92 key) (n:=64) (QaC 92 key) r8_14 (Qaq r8_14) (show 64≤maxLen from by decide)),(QcA _ _)⟩
   ·exact ⟨zbW (QaL (xs:=dig (padX 54 key++flat ps i)) (n:=32) (QaY _) r21_14 (Qaq r21_14) (show 32≤maxLen from by decide)),(Qed _)⟩
  have hsh24:=Qmn g23 2 _ ([(.slice (some ⟨g8,0,none⟩) 64 64,padX 92 key),(.slice (some ⟨g21,0,none⟩) 32 32,dig (padX 54 key++flat ps i))]:List (Value×List Int)) rfl dd tc tq W14 (Qaa (Qaa (rpn p12 r1_10 e11 l21) e13) e14) (Qaa (Qaa (rpn p12 r2_10 e11 l21) e13) e14) r23_14 hps24 (by simp only [zaU,zaV,zbl,zbm,zbi,za6,(QaY _),(QaC 92 key)]; omega)
  rw [show ((zbn Prod.snd ([(.slice (some ⟨g8,0,none⟩) 64 64,padX 92 key),(.slice (some ⟨g21,0,none⟩) 32 32,dig (padX 54 key++flat ps i))]:List (Value×List Int))).flatten)=(padX 92 key)++(dig (padX 54 key++flat ps i)) by simp only [zaU,zaV,zbl,zbm,zbi]] at hsh24
  refine Qao (.agg (ints .u8 (dig ((padX 92 key)++(dig (padX 54 key++flat ps i)))))) 108 #[.slice (some ⟨g23,0,none⟩) 2 2] 35 rfl kj kj hsh24 fun W15 e15=>?_
  have r5_2:=(Qaa r5_1 e2)
  have r5_3:=(Qaa r5_2 e3)
  have r5_6:=(zbJ p6 (zbJ p5 (Qaa r5_3 e4) (Qad r5_2 l7)) (Qad r5_3 l8))
  have r5_10:=(Qaa (zbT q9 (zbN q8 (Qaa r5_6 e7) (Qad r5_6 ld11)) (Qaw (Qad r5_6 ld11) QaF)) e10)
  have r5_15:=(Qaa (Qaa (Qaa (rpn p12 r5_10 e11 l21) e13) e14) e15)
  refine Qag g5 _ (ints .u8 (dig ((padX 92 key)++(dig (padX 54 key++flat ps i))))) 23 r5_15 rfl kj (Qaf 23 _ _ g5 23 _ _ r5_15 rfl kj kj (isz (n:=32) kj (izT (QaY _))) (eqsz (n:=32) (izT (qZ (n:=32))) (izT (QaY _))) (Qat _ _)) fun W16 p16 r5_16=>sgN hK22 <| wp_ret ?_
  with_reducible repeat first | refine goR1 ?_ | refine goR2 ?_
  exact (show bodyPost _ _ _ .ret _ _ from ret1 (.agg (ints .u8 (dig ((padX 92 key)++(dig (padX 54 key++flat ps i)))))) rfl (QaJ g5 23 _ r5_16 kj kj (isz (n:=32) kj (izT (QaY _)))) ⟨by unfold hmac; rw [heq23,Qea hn],(zbK p16 (zbL (zbL x13 e14) e15) (qT (zbH w).size l5))⟩)
end Sha
end
section
namespace Sha
open Go Go.RowKit
open Rely Auto Own
theorem bytes_app {a b:List Int} (ha:Qak a) (hb:Qak b):Qak (a++b):=fun x hx=>by
  rcases zaK.1 hx with h | h
  · exact ha x h
  · exact hb x h
section
variable {ds : List Deferred} {P : Program} {ops : Array Oper} {Q : Exit → Act → World → Prop} {rest : List Oper} {o : Oper} {N : Nat} {L : Env} {W : World}
end
end Sha
end
section
namespace Sha
open Go Go.RowKit
open Rely Auto Own
def tg (key info:List Int):Nat→List Int
  | 0=>[]
  | i+1=>hmac key ((tg key info i++info)++[((i+1:Nat):Int)])
def okm (key info:List Int):Nat→List Int
  | 0=>[]
  | k+1=>okm key info k++tg key info (k+1)
theorem Qj1 (key info:List Int) (i:Nat):(tg key info i).length≤32:=by
  cases i with
  | zero=>exact zak _
  | succ i=>exact qE (QbL _ _)
theorem QfV (key info:List Int) (i:Nat):Qak (tg key info i):=by
  cases i with
  | zero=>intro x hx; cases hx
  | succ i=>exact Qjh _ _
theorem QdD (key info:List Int) (k:Nat):(okm key info k).length=32*k:=by
  induction k with
  | zero=>rfl
  | succ k ih=>rw [okm,za6,ih,tg,QbL]; omega
theorem QlN (key info:List Int) (k n:Nat):decide ((((okm key info k).length:Nat):Int)<(n:Int))=decide (32*k<n):=by
  rw [QdD]
  exact decide_eq_decide.2 oo
theorem u8_n (k : Nat) (h:k+1≤255):zaf.wrap ((k+1:Nat):Int)=((k+1:Nat):Int):=by rw [QkN]; omega
end Sha
end
section
namespace Sha
open Go Go.RowKit
open Rely Auto Own
theorem QiG (m : Nat) (gs:List Nat) (g1 g2 B:Nat) (key info:List Int) (a_key a_info:Option Addr) (c_key c_info:Nat) (tc tq:TypeId) (w:World) (hkl:key.length≤800000000) (hil:info.length≤700000000) (hkb:Qak key) (hib:Qak info)
  (hBw:B≤w.heap.size) (hgs:∀ c∈gs,B≤c) (hgl:∀ c∈gs,c<w.heap.size) (hkw:RdK .u8 B key (.slice a_key key.length c_key) w) (hiw:RdK .u8 B info (.slice a_info info.length c_info) w)
  (hcw:w.heap[4]? = some (.cells (ints .u64 QaM) tc)) (hqw:w.heap[3]? = some (.cells (ints .u64 Qa5) tq)) (r1w:w.heap[g1]? = some (.cells #[.slice a_key key.length c_key] 41)) (r2w:w.heap[g2]? = some (.cells #[.slice a_info info.length c_info] 41)) (n1:g1∉gs) (n2:g2∉gs) (nc:4∉gs) (nq:3∉gs) :
  SeqStopsK Fence.wide m Tryz.prog 96 #[pp g1 0,pp g2 0] (fun i:Nat=>#[Value.agg (ints .u8 (tg key info (i+1)))]) (QbP gs) (fun ys=>ys=zaa 255) (fun ys=>∃ k,ys=zaa k∧k≤255) 256 w:=fun l J Jx Wi hW hJ hJx hY h0=>by
 refine callsIn_wide.2 ?_
 have hwi:=hW.size
 have hBi:B≤Wi.heap.size:=qT hBw hwi
 have hk:=hkw.ext hW
 have hi:=hiw.ext hW
 have hc:=Qaa hcw hW
 have hq:=Qaa hqw hW
 refine enter 24 [(0,.func (.yield l) #[] #[]),(1,pp g1 0),(2,pp g2 0)] Tryz.func96 rfl rfl kj rfl <| sgB kj <| sgB kj <| wp_block <| Qa3 (fun (s1:Nat×Value)=>[(0,.func (.yield l) #[] #[]),(1,pp g1 0),(2,pp g2 0),(4,s1.2),(5,.int .i64 ((s1.1+1:Nat):Int))]) (fun (s1:Nat×Value) W=>(s1.1≤255)∧(J (zaa s1.1) W)∧(W.heap[g1]? = some (.cells #[.slice a_key key.length c_key] 41))∧(W.heap[g2]? = some (.cells #[.slice a_info info.length c_info] 41))∧(W.heap[4]? = some (.cells (ints .u64 QaM) tc))∧(W.heap[3]? = some (.cells (ints .u64 Qa5) tq))∧(RdK .u8 B key (.slice a_key key.length c_key) W)∧(RdK .u8 B info (.slice a_info info.length c_info) W)∧(OwnN .u8 23 Wi.heap.size (tg key info s1.1) s1.2 W)∧(Grew Wi W)) (fun (s1:Nat×Value)=>255-s1.1) (0,(.slice none 0 0)) ⟨kj,kj,kj,kj,kj,trivial⟩ ⟨dd,(show J (zaa 0) _ from h0),(Qaa r1w hW),(Qaa r2w hW),hc,hq,hk,hi,(Qb5 _ _ _ _),(Grew.refl Wi)⟩ fun s1 X1 V1 hI1=>?_
 obtain ⟨k,v⟩:=s1
 obtain ⟨hkl_,hJ1,rr1,rr2,rrc,rrq,hk1,hi1,hv,xx1⟩:=hI1
 replace hkl_:k≤255:=hkl_
 replace hJ1:J (zaa k) V1:=hJ1
 replace rr1:V1.heap[g1]? = some (.cells #[.slice a_key key.length c_key] 41):=rr1
 replace rr2:V1.heap[g2]? = some (.cells #[.slice a_info info.length c_info] 41):=rr2
 replace rrc:V1.heap[4]? = some (.cells (ints .u64 QaM) tc):=rrc
 replace rrq:V1.heap[3]? = some (.cells (ints .u64 Qa5) tq):=rrq
 replace hk1:RdK .u8 B key (.slice a_key key.length c_key) V1:=hk1
 replace hi1:RdK .u8 B info (.slice a_info info.length c_info) V1:=hi1
 replace hv:OwnN .u8 23 Wi.heap.size (tg key info k) v V1:=hv
 replace xx1:Grew Wi V1:=xx1
 obtain ⟨a4,c4,rfl,-⟩:=id (zbR hv)
 refine wp_seq_k fun K7 hK7=>sgB kj <| Qay (t:=decide (((k+1:Nat):Int)≤255)) kj (fun c9=>?_) (fun c9=>?_)
 ·skip
  have hlt:k+1≤255:=by have:=of_decide_eq_true c9; omega
  have htl:=Qj1 key info k
  have hl1:[((k+1:Nat):Int)].length=1:=rfl
  refine wp_skip <| hK7 _ _ <| wp_seq_k fun K10 hK10=>wp_block <| sgC fun K11 hK11=>sv (.slice a_key key.length c_key) 11 (Qab 41 _ g1 0 41 _ (.slice a_key key.length c_key) _ rr1 rfl kj kj kj) <| sg 1 kj <| sv (.slice a_info info.length c_info) 13 (Qab 41 _ g2 0 41 _ (.slice a_info info.length c_info) _ rr2 rfl kj kj kj) <| sg 1 kj <| sv (.int .u8 ((k+1:Nat):Int)) 15 (Qac (u:=.int .u8 (zaf.wrap ((k+1:Nat):Int))) kj (congrArg (zam .u8) (u8_n _ oo))) ?_
  refine QaA (ints .u8 ([((k+1:Nat):Int)])) 5 1 16 rfl kj kj fun g12 W2 l12 e2 r12_2=>?_
  have x2:=Grew.ext xx1 e2
  have b12:=qT xx1.size l12
  refine QaA (#[.slice a4 ((tg key info k).length) c4,.slice a_info info.length c_info,.slice (some ⟨g12,0,none⟩) 1 1]) 41 3 17 rfl kj kj fun g13 W3 l13 e3 r13_3=>?_
  have b13:=qT x2.size l13
  have f16_3:=((hk1.ext e2).ext e3)
  have f20_3:=((hi1.ext e2).ext e3)
  have r12_3:=(Qaa r12_2 e3)
  have r1_3:=(Qaa (Qaa rrc e2) e3)
  have r2_3:=(Qaa (Qaa rrq e2) e3)
  have hps14:∀ p∈([(.slice a4 ((tg key info k).length) c4,tg key info k),(.slice a_info info.length c_info,info),(.slice (some ⟨g12,0,none⟩) 1 1,[((k+1:Nat):Int)])]:List (Value×List Int)),RdK .u8 W3.heap.size p.2 p.1 W3∧Qak p.2:=by
   intro p hp
   simp only [zbb,zbc,or_false] at hp
   rcases hp with rfl | rfl | rfl
   ·exact ⟨zbW (zbR ((hv.ext e2).ext e3)),(QfV _ _ _)⟩
   ·exact ⟨zbW f20_3,hib⟩
   ·exact ⟨zbW (QaL (xs:=[((k+1:Nat):Int)]) (n:=1) rfl r12_3 (Qaq r12_3) (show 1≤maxLen from by decide)),(fun x hx=>by rw [zbo] at hx; subst hx; omega)⟩
  have htg14:=tagC (key) (.slice a_key key.length c_key) _ g13 3 _ ([(.slice a4 ((tg key info k).length) c4,tg key info k),(.slice a_info info.length c_info,info),(.slice (some ⟨g12,0,none⟩) 1 1,[((k+1:Nat):Int)])]:List (Value×List Int)) rfl dd tc tq W3 r1_3 r2_3 hkb oo f16_3 r13_3 hps14 (by simp only [zaU,zaV,zbl,zbm,zbi,za6]; omega)
  rw [show ((zbn Prod.snd ([(.slice a4 ((tg key info k).length) c4,tg key info k),(.slice a_info info.length c_info,info),(.slice (some ⟨g12,0,none⟩) 1 1,[((k+1:Nat):Int)])]:List (Value×List Int))).flatten)=(tg key info k)++info++([((k+1:Nat):Int)]) by simp only [zaU,zaV,zbl,zbm,zbi,zaR]] at htg14
  refine Qao (.agg (ints .u8 (hmac (key) ((tg key info k)++info++([((k+1:Nat):Int)]))))) 97 #[.slice a_key key.length c_key,.slice (some ⟨g13,0,none⟩) 3 3] 18 rfl kj kj htg14 fun W4 e4=>?_
  have x4:=Grew.ext (Grew.ext x2 e3) e4
  refine Qah (ints .u8 (zaj 32 0)) 23 6 rfl kj kj fun g21 W5 l21 e5 r21_5=>?_
  have b21:=qT x4.size l21
  refine Qag g21 _ (ints .u8 (hmac (key) ((tg key info k)++info++([((k+1:Nat):Int)])))) 23 r21_5 rfl kj (Qaf 23 _ _ g21 23 _ _ r21_5 rfl kj kj (isz (n:=32) kj (izT (QbL _ _))) (eqsz (n:=32) (izT (qZ (n:=32))) (izT (QbL _ _))) (Qat _ _)) fun W6 p6 r21_6=>?_
  have r21_6_22:W6.heap[g21]? = some (.cells (ints .u8 (tg key info (k+1))) 23):=Qa9 r21_6 rfl
  refine sgN hK11 <| wp_seq_k fun K23 hK23=>wp_seq_k fun K24 hK24=>(wpIn_wide (n:=m)).1 <| Qbz <| QbE (.func (.yield l) #[] #[]) 19 rfl (Qb0 _ _) rfl kj kj <| QbE (.agg (ints .u8 (tg key info (k+1)))) 20 rfl (Qb0 _ _) rfl kj (Qae 23 _ g21 23 _ _ r21_6_22 rfl kj kj (isz (n:=32) kj (izT (QbL _ _)))) ?_
  have y1_4:=(zbI (zbI (zbI (zbH V1) e2) e3) e4)
  refine Qis (m:=m) (l:=l) (args:=#[.agg (ints .u8 (tg key info (k+1)))]) 21 rfl rfl kj kj (hY (zaa k) k W6 (QfQ hJ hJ1 (zbK p6 (zbI y1_4 e5) (qT y1_4.size l21))) (by rw [zbp]; omega)) (fun W' hA=>?_) (fun W' hA=>?_)
  ·skip
   obtain ⟨W7,hW7⟩:∃ z,z=W':=⟨_,rfl⟩
   rw [←hW7] at hA ⊢
   obtain ⟨hj25,hk25⟩:=hA
   refine QbE (.bool false) 22 rfl (Qb0 _ _) rfl kj kj <| QcM <| hK24 _ _ <| cond_false kj <| wp_skip <| hK23 _ _ <| sgA kj <| hK10 _ _ <| Qaj <| sg 1 kj ?_
   refine sv (.int .i64 (((k+1)+1:Nat):Int)) 10 (Qac (u:=.int .i64 (zal.wrap (((k+1:Nat):Int)+1))) kj (congrArg (zam .i64) (i64n _ _ oo oo))) <| sg 1 kj <| Qas ?_
   have r3_4:=(Qaa (Qaa (Qaa rr1 e2) e3) e4)
   have r4_4:=(Qaa (Qaa (Qaa rr2 e2) e3) e4)
   have r1_4:=(Qaa r1_3 e4)
   have r2_4:=(Qaa r2_3 e4)
   have r21_7:=(QbP.row hk25 r21_6_22 (fun hm=>by have h1:=hgl _ hm; have h2:=b21; omega))
   with_reducible repeat first | refine goX1 ?_ | refine goX2 ?_ | refine goX3 ?_
   exact Qa1 ((k+1),.slice (some ⟨g21,0,none⟩) 32 32) ⟨kj,kj,kj,kj,kj,trivial⟩ ⟨oo,(by rw [zbq]; exact hj25),(QbP.row hk25 (rpn p6 r3_4 e5 l21) n1),(QbP.row hk25 (rpn p6 r4_4 e5 l21) n2),(QbP.row hk25 (rpn p6 r1_4 e5 l21) nc),(QbP.row hk25 (rpn p6 r2_4 e5 l21) nq),(RdK.keepC (((f16_3.ext e4).ext e5).puts p6 (qT hBi b21)) hk25 hgs),(RdK.keepC (((f20_3.ext e4).ext e5).puts p6 (qT hBi b21)) hk25 hgs),(Qb3 (xs:=tg key info (k+1)) (QbL _ _) b21 r21_7 dd),(Grew.keepC (Grew.puts (Grew.ext x4 e5) p6) hk25)⟩ (by show 255-(k+1)<255-k; omega)
  ·skip
   obtain ⟨W7,hW7⟩:∃ z,z=W':=⟨_,rfl⟩
   rw [←hW7] at hA ⊢
   refine QbE (.bool true) 22 rfl (Qb0 _ _) rfl kj kj <| QcM <| hK24 _ _ <| cond_true kj <| wp_ret ?_
   with_reducible repeat first | refine goR1 ?_ | refine goR2 ?_
   exact (show bodyPost _ _ _ .ret _ _ from ret0 rfl ⟨⟨_,rfl⟩,.inr ⟨_,⟨k+1,zbq.symm,hlt⟩,hA⟩⟩)
 ·skip
  have hke:k=255:=by have:=of_decide_eq_false c9; omega
  refine wp_exit ?_
  with_reducible repeat first | refine goX1 ?_ | refine goX2 ?_ | refine goX3 ?_
  exact (show bodyPost _ _ _ .normal _ _ from end0 rfl ⟨⟨_,rfl⟩,.inl ⟨_,congrArg zaa hke,hJ1⟩⟩)
end Sha
end
section
namespace Sha
open Go Go.RowKit
open Rely Auto Own
theorem QjE {P : Program} {ρ:Operand→Value} {o:Oper} {W:World} {k:IntKind} {e:TypeId} (x y:Operand) (tx ty:TypeId) (ho:o.op=.call { callee:=.builtin .copy,args:=#[x,y],argTypes:=#[tx,ty] }) (hu:P.underlying tx=some (.slice e)) (hsz:(P.info? e).map (·.size)=some 1)
    {g off dl dc n B:Nat} {xs z:List Int} {v:Value} {T:TypeId} (hx:ρ x=.slice (some ⟨g,off,none⟩) dl dc) (hy:ρ y=v) (hr:RdK k B z v W)
    (hg:W.heap[g]? = some (.cells (ints k xs) T)) (hq:off+dl≤xs.length) (hn:n=min z.length dl) :
    ∃ W':World,(execOp ρ o).run P W=.ok (.value (.int .i64 (n:Int))) W'∧Puts W g W'∧W'.heap[g]? = some (.cells (ints k (xs.take off++z.take n++xs.drop (off+n))) T):=by
  obtain ⟨a,cap,rfl,y2,y3,y4,y5⟩:=hr
  have hgo:∀ W',(Builtin.copy_ #[tx,ty] o.type #[.slice (some ⟨g,off,none⟩) dl dc,.slice a z.length cap]).run P W=.ok (goInt n) W'→(execOp ρ o).run P W=.ok (.value (.int .i64 (n:Int))) W':=fun W' h=>by
    unfold execOp
    simp only [ho,resolve,invoke,builtin,za0,za2,za1,zaT,zaU,zaV,hx,hy,h,goInt]
  rcases zbj n with h0 | h0
  · refine ⟨W,hgo W ?_,⟨rfl,rfl,rfl,rfl,fun _ _=>rfl⟩,?_⟩
    · rw [h0]; exact run_copy_none W tx ty o.type e _ _ _ _ _ _ hu hsz (hn.symm.trans h0)
    · rw [h0,zas,zbi,zaD,zbg]; exact hg
  · obtain ⟨gz,oz,rfl,z2,z3,z4⟩:=y5.resolve_left (fun e=>by rw [e] at hn; simp at hn; omega)
    have hlen:((z.take n).map (zam k)).length=n:=by simp; omega
    have h:=run_copy_row (P:=P) W tx ty o.type e g off dl dc ⟨gz,oz,none⟩ z.length cap (ints k xs) T ((z.take n).map (zam k)) hu hsz hg (by rw [hlen]; exact hn)
      (Qh7 (k:=k) (ys:=z.take n) fun i hi=>by
        rw [zai] at hi
        rw [z4 i oo]
        simp [nth,show i<n by omega]) (by rw [hlen,Qbq]; omega) (Qh3 k _)
    rw [hlen] at h
    have e1:((ints k xs).toList.take off++(z.take n).map (zam k)++(ints k xs).toList.drop (off+n)).toArray=ints k (xs.take off++z.take n++xs.drop (off+n)):=by
      apply zaN
      show (xs.map (zam k)).take off++(z.take n).map (zam k)++(xs.map (zam k)).drop (off+n)=(xs.take off++z.take n++xs.drop (off+n)).map (zam k)
      simp only [zaO,zaP,zaQ]
    rw [e1] at h
    exact ⟨_,hgo _ h,Qbe _ _ _,setRow_heap _ _ _ _ _ _ hg⟩
theorem QgD {P : Program} {ρ:Operand→Value} {o:Oper} {W:World} {k:IntKind} {e:TypeId} (x y:Operand) (tx ty:TypeId) (ho:o.op=.call { callee:=.builtin .copy,args:=#[x,y],argTypes:=#[tx,ty] }) (hu:P.underlying tx=some (.slice e)) (hsz:(P.info? e).map (·.size)=some 1)
    {g off dl dc n B:Nat} {xs ys z:List Int} {v:Value} {T:TypeId} (hx:ρ x=.slice (some ⟨g,off,none⟩) dl dc) (hy:ρ y=v) (hr:RdK k B z v W)
    (hg:W.heap[g]? = some (.cells (ints k xs) T)) (hq:off+dl≤xs.length) (hn:n=min z.length dl) (hY:xs.take off++z.take n++xs.drop (off+n)=ys) :
    ∃ W':World,(execOp ρ o).run P W=.ok (.value (.int .i64 (n:Int))) W'∧Puts W g W'∧W'.heap[g]? = some (.cells (ints k ys) T):=hY▸QjE x y tx ty ho hu hsz hx hy hr hg hq hn
theorem Qib {P : Program} {ρ:Operand→Value} {o:Oper} {W:World} {g:Nat} {X Y:Obj} {v:Value} (h:∃ W':World,(execOp ρ o).run P W=.ok (.value v) W'∧Puts W g W'∧W'.heap[g]? = some Y) :
    ∃ u W',(execOp ρ o).run P W=.ok (.value u) W'∧Qda g X Y W W'∧(u=v∧W'.heap[g]? = some Y):=by
  obtain ⟨W',e1,p1,r1⟩:=h
  exact ⟨_,W',e1,⟨ExtB.puts (ExtB.refl _ _) p1,.inr r1⟩,rfl,r1⟩
theorem QiN {P : Program} {ρ:Operand→Value} {o:Oper} {w:World} (t:TypeId) (x z:Operand) (l g len cap:Nat) (e:TypeId) (ho:o.op=.slice t x (some z) none none) (hx:ρ x=.slice (some ⟨g,0,none⟩) len cap)
    (hu:P.underlying t=some (.slice e)) (hs:(P.info? e).map (·.size)=some 1) (kz:IntKind) (hz:ρ z=.int kz (l:Int)) (h1:l≤len) (h2:len≤cap) :
    (execOp ρ o).run P w=.ok (.value (.slice (some ⟨g,(if cap=l then 0 else l),none⟩) (len-l) (cap-l))) w:=by
  cases hq:P.info? e with
  | none=>simp [hq] at hs
  | some i =>
    have hs':i.size=1:=by simpa [hq] using hs
    unfold execOp
    simp [ho,hx,hz,Instr.sliceAt,Instr.slice,Instr.sliceBounds,run_sliceBound,run_underlying hu,sizeOf,typeInfo,hq,hs',h1,h2]
    split
    · simp [Addr.add]
    · simp [Addr.add]
      exact fun h=>h.symm
theorem goXo {K : Act→World→Prop} {Q:Exit→Act→World→Prop} {a:Act} {w:World} {n m:Nat} (h:n≠m) (k:Q (.exit n) a w):Exit.inBlock m Q (.exit n) a w:=by
  unfold Exit.inBlock
  simp [h]
  exact k
theorem Qha {W W':World} {g:Nat} {cs:Array Value} {t:TypeId} (h:ExtB g W W') (r:W.heap[g]? = some (.cells cs t)):KeepsOthers W W' :=
  ⟨h.2.2.2.1,fun k o hk ho=>by
    by_cases e:k=g
    · subst e
      rw [r] at hk
      cases hk
      cases ho
    · exact (h.2.2.2.2 k (Qaq hk) e).trans hk⟩
theorem Qkt {gs : List Nat} {A B:World} {g:Nat} (h:ExtB g A B) (hm:g∈gs):QbP gs A B:=⟨h.2.2.2.1,fun k cs t fr q n=>(h.2.2.2.2 k (Qaq q) (fun e=>n (e▸hm))).trans q⟩
theorem Qjf {gs : List Nat} {A B:World} {g:Nat} (h:Puts A g B) (hm:g∈gs):QbP gs A B:=⟨qE h.2.2.2.1.symm,fun k cs t fr q n=>(h.2.2.2.2 k (fun e=>n (e▸hm))).trans q⟩
def okL (key info:List Int) (pre:List Nat):List Int:=(pre.map fun x=>tg key info (x+1)).flatten
def FF (key info:List Int) (n:Nat) (pre:List Nat):List Int:=(okL key info pre).take n++zaj (n-32*pre.length) 0
theorem Qh5 (key info:List Int):∀ pre,(okL key info pre).length=32*pre.length
  | []=>rfl
  | x::l=>by
    have:=Qh5 key info l
    unfold okL at this ⊢
    rw [zaU,zbl,za6,this,tg,QbL,zbr]; omega
theorem Qif (key info:List Int) (pre:List Nat) (x:Nat):okL key info (pre++[x])=okL key info pre++tg key info (x+1):=by simp [okL]
theorem QgP (key info:List Int):∀ k,okL key info (zaa k)=okm key info k
  | 0=>rfl
  | k+1=>by rw [zbq,Qif,QgP key info k,okm]
theorem QkV (key info:List Int) (n:Nat) (pre:List Nat):(FF key info n pre).length=n:=by
  unfold FF
  rw [za6,zai,Qh5,qZ]; omega
theorem Qpc (key info:List Int) (n:Nat):zaj n 0=FF key info n []:=by simp [FF,okL]
theorem QkC (key info:List Int) (n:Nat) (pre:List Nat) (x:Nat) (h:pre.length=0∨32*pre.length<n) :
    (FF key info n pre).take (if n=32*pre.length then 0 else 32*pre.length)++(tg key info (x+1)).take (min 32 (n-32*pre.length))++(FF key info n pre).drop ((if n=32*pre.length then 0 else 32*pre.length)+min 32 (n-32*pre.length))=FF key info n (pre++[x]):=by
  have hl:=Qh5 key info pre
  have ht:(tg key info (x+1)).length=32:=QbL _ _
  have hp:(pre++[x]).length=pre.length+1:=by simp
  by_cases hn:n=32*pre.length
  · have h0:n=0:=by omega
    subst h0
    rw [if_pos hn]
    unfold FF
    simp
  · have hlt:32*pre.length<n:=by omega
    rw [if_neg hn]
    unfold FF
    rw [Qif,hp,zaw (by omega:(okL key info pre).length≤n),zaJ oo,zaw (by omega:(okL key info pre).length≤32*pre.length),
      List.drop_append,zaX (by omega:(okL key info pre).length≤32*pre.length+min 32 (n-32*pre.length)),zap,zbk,List.take_append,zaw (by omega:(okL key info pre).length≤n),hl]
    congr 1
    · congr 1
      by_cases h32:n-32*pre.length≤32
      · rw [show min 32 (n-32*pre.length)=n-32*pre.length by omega]
      · rw [show min 32 (n-32*pre.length)=32 by omega,zaw oo,zaw oo]
    · congr 1; omega
theorem QlM (key info:List Int) (n:Nat) (pre:List Nat) (x:Nat) (h:pre.length=0∨32*pre.length<n) :
    (FF key info n (pre++[x])).take (if n=32*pre.length then 0 else 32*pre.length)++(tg key info (x+1)).take (min 32 (n-32*pre.length))++(FF key info n (pre++[x])).drop ((if n=32*pre.length then 0 else 32*pre.length)+min 32 (n-32*pre.length))=FF key info n (pre++[x]):=by
  have ht:(tg key info (x+1)).length=32:=QbL _ _
  rw [←QkC key info n pre x h]
  refine Qlu _ _ _ _ ?_ oo
  rw [QkV]
  split <;> omega
theorem QnN (key info:List Int) (n k:Nat) (h:n≤32*k):FF key info n (zaa k)=(okm key info k).take n:=by
  unfold FF
  rw [QgP,zbp,show n-32*k=0 by omega,zbs,zbi]
theorem Qei (key info:List Int) (x:Nat):(tg key info (x+1)).length=32:=QbL _ _
theorem Qpl (a_key a_info:Option Addr) (n1 n2 c1 c2:Nat) (w:World):Calls Tryz.prog 91 #[.slice a_key n1 c1,.slice a_info n2 c2] w (Qby w (fun v W=>∃ g1 g2,v=.func (.func 96) #[] #[pp g1 0,pp g2 0]∧w.heap.size≤g1∧w.heap.size≤g2∧W.heap[g1]? = some (.cells #[.slice a_key n1 c1] 41)∧W.heap[g2]? = some (.cells #[.slice a_info n2 c2] 41))):=by
  refine enter 6 [(0,.slice a_key n1 c1),(1,.slice a_info n2 c2)] Tryz.func91 rfl rfl kj rfl <| sgC fun K1 hK1=>Qah (#[.slice a_key n1 c1]) 41 2 rfl kj kj fun g2 W1 l2 e1 r2_1=>?_
  have x1:=zbL (zbH w) e1
  refine Qah (#[.slice a_info n2 c2]) 41 3 rfl kj kj fun g3 W2 l3 e2 r3_2=>sg 1 kj <| sgN hK1 <| sgB kj <| wp_ret ?_
  with_reducible repeat first | refine goR1 ?_ | refine goR2 ?_
  exact (show bodyPost _ _ _ .ret _ _ from ret1 (.func (.func 96) #[] #[pp g2 0,pp g3 0]) rfl (Qax kj) ⟨_,rfl,(zbL x1 e2),g2,g3,rfl,(qT (zbH w).size l2),(qT x1.size l3),(Qaa r2_1 e2),r3_2⟩)
theorem Ql4 (key info:List Int) (n k:Nat) (h:n≤32*k):((okm key info k).take n).length=n:=by
  rw [zai,QdD]; omega
theorem QlG (key info:List Int) (v1 v2:Value) (B B2 n:Nat) (tc tq:TypeId) (w:World) (hc:w.heap[4]? = some (.cells (ints .u64 QaM) tc)) (hq:w.heap[3]? = some (.cells (ints .u64 Qa5) tq)) (hn:n≤8160) (hkl:key.length≤800000000) (hil:info.length≤700000000) (hkb:Qak key) (hib:Qak info) (hk:RdK .u8 B key v1 w) (hi:RdK .u8 B2 info v2 w) :
  Calls Tryz.prog 84 #[v1,v2,.int .i64 (n:Int)] w (Qby w (fun v W=>∃ u k,v=.tuple #[u,.nilIface]∧n≤32*k∧OwnN .u8 5 w.heap.size ((okm key info k).take n) u W)):=by
 obtain ⟨a_key,c_key,rfl,-⟩:=id hk
 obtain ⟨a_info,c_info,rfl,-⟩:=id hi
 refine Qm2 35 [(0,.slice a_key key.length c_key),(1,.slice a_info info.length c_info),(2,.int .i64 (n:Int))] Tryz.func84 rfl rfl kj rfl <| sgC fun K3 hK3=>Qah (#[.int .i64 (n:Int)]) 3 5 rfl kj kj fun g4 W1 l4 e1 r4_1=>?_
 have x1:=zbL (zbH w) e1
 have b4:=qT (zbH w).size l4
 refine sg 2 kj <| sgN hK3 <| wp_scope_straight <| wp_seq_k fun K5 hK5=>sgC fun K6 hK6=>sv (.int .i64 (n:Int)) 11 (Qab 3 _ g4 0 3 _ (.int .i64 (n:Int)) _ r4_1 rfl kj kj kj) <| sv (.bool false) 12 (Qac (u:=.bool (decide ((n:Int)<0))) kj (congrArg zax (decide_eq_false oo))) <| sg 1 kj <| sv (.int .i64 (n:Int)) 14 (Qab 3 _ g4 0 3 _ (.int .i64 (n:Int)) _ r4_1 rfl kj kj kj) <| sv (.bool false) 15 (Qac (u:=.bool (decide ((n:Int)>8160))) kj (congrArg zax (decide_eq_false oo))) ?_
 refine sg 1 kj <| sgN hK6 <| cond_false kj <| wp_skip <| hK5 _ _ <| sgC fun K7 hK7=>sv (.int .i64 (n:Int)) 18 (Qab 3 _ g4 0 3 _ (.int .i64 (n:Int)) _ r4_1 rfl kj kj kj) <| QaA (ints .u8 (zaj n 0)) 5 n 19 rfl kj (QdR 41 _ _ .i64 .i64 n 5 rfl kj kj kj (.inr kj) oo) fun g8 W2 l8 e2 r8_2=>?_
 have x2:=zbL x1 e2
 have b8:=qT x1.size l8
 refine Qah (#[.slice none 0 0]) 41 8 rfl kj kj fun g9 W3 l9 e3 r9_3=>Qag g9 _ (#[.slice (some ⟨g8,0,none⟩) n n]) 41 r9_3 rfl kj (Qbj 41 _ _ g9 0 41 _ (.slice (some ⟨g8,0,none⟩) n n) r9_3 rfl kj kj kj kj kj rfl) fun W4 p4 r9_4=>?_
 have x4:=zbK p4 (zbL x2 e3) (qT x2.size l9)
 refine sgN hK7 <| sgC fun K10 hK10=>Qah (#[.int .i64 0]) 3 9 rfl kj kj fun g11 W5 l11 e5 r11_5=>?_
 have b11:=qT x4.size l11
 refine Qag g11 _ (#[.int .i64 0]) 3 r11_5 rfl kj (Qbj 3 _ _ g11 0 3 _ (.int .i64 0) r11_5 rfl kj kj kj kj kj rfl) fun W6 p6 r11_6=>sgN hK10 <| wp_seq_k fun K12 hK12=>wp_label <| hK12 _ _ <| wp_seq_k fun K13 hK13=>sgC fun K14 hK14=>sg 2 kj <| Qau (fun v W'=>(fun v W=>∃ g1 g2,v=.func (.func 96) #[] #[pp g1 0,pp g2 0]∧W6.heap.size≤g1∧W6.heap.size≤g2∧W.heap[g1]? = some (.cells #[.slice a_key key.length c_key] 41)∧W.heap[g2]? = some (.cells #[.slice a_info info.length c_info] 41)) v W'∧Ext W6 W') 91 #[.slice a_key key.length c_key,.slice a_info info.length c_info] 22 rfl kj kj ((Qpl a_key a_info _ _ c_key c_info _).mono mo1) fun vv15 W7 hh15=>?_
 obtain ⟨hv15,e7⟩:=hh15
 have x7:=zbL (zbK p6 (zbL x4 e5) b11) e7
 obtain ⟨gp1,gp2,rfl,lp1,lp2,rp1,rp2⟩:=hv15
 refine sgN hK14 <| wp_block ?_
 have r4_2:=(Qaa r4_1 e2)
 have r4_4:=(rpn p4 r4_2 e3 l9)
 have r4_7:=(Qaa (rpn p6 r4_4 e5 l11) e7)
 have r9_7:=(Qaa (rpn p6 r9_4 e5 l11) e7)
 have r11_7:=(Qaa r11_6 e7)
 have r8_4:=(rpn p4 r8_2 e3 l9)
 have r8_6:=(rpn p6 r8_4 e5 l11)
 have r8_7:=(Qaa r8_6 e7)
 have r1_2:=(Qaa (Qaa hc e1) e2)
 have r1_4:=(rpn p4 r1_2 e3 l9)
 have r2_2:=(Qaa (Qaa hq e1) e2)
 have r2_4:=(rpn p4 r2_2 e3 l9)
 have nb58:g4≠g9:=(Qad r4_2 l9)
 have nb59:g4≠g11:=(Qad r4_4 l11)
 have nb5O:g4≠g8:=(Qad r4_1 l8)
 have nb85:g9≠g4:=(QaI r4_2 l9)
 have nb89:g9≠g11:=(Qad r9_4 l11)
 have nb8O:g9≠g8:=(QaI r8_2 l9)
 have nb95:g11≠g4:=(QaI r4_4 l11)
 have nb98:g11≠g9:=(QaI r9_4 l11)
 have nb9O:g11≠g8:=(QaI r8_4 l11)
 have nbO5:g8≠g4:=(QaI r4_1 l8)
 have nbO8:g8≠g9:=(Qad r8_2 l9)
 have nbO9:g8≠g11:=(Qad r8_4 l11)
 have hgs:∀ c∈([g11,g8]:List Nat),w.heap.size≤c:=(fun c hc=>by simp only [zbb,zbc,or_false] at hc; rcases hc with rfl | rfl; exact b11; exact b8)
 have hgl:∀ c∈([g11,g8]:List Nat),c<W7.heap.size:=(fun c hc=>by simp only [zbb,zbc,or_false] at hc; rcases hc with rfl | rfl; exact Qaq r11_7; exact Qaq r8_7)
 have hgp:∀ c∈([g11,g8]:List Nat),c<W6.heap.size:=(fun c hc=>by simp only [zbb,zbc,or_false] at hc; rcases hc with rfl | rfl; exact Qaq r11_6; exact Qaq r8_6)
 have hkL:RdK .u8 w.heap.size key (.slice a_key key.length c_key) W7:=(zbW hk).ext x7
 have hiL:RdK .u8 w.heap.size info (.slice a_info info.length c_info) W7:=(zbW hi).ext x7
 refine Qh1 (gf:=96) (lb:=#[pp gp1 0,pp gp2 0]) (enc:=fun x:Nat=>.agg (ints .u8 (tg key info (x+1)))) kj (enters_of Tryz.func96 kj rfl) (QiG 2 [g11,g8] gp1 gp2 w.heap.size key info a_key a_info c_key c_info tc tq W7 hkl hil hkb hib x7.size hgs hgl hkL hiL (Qaa (rpn p6 r1_4 e5 l11) e7) (Qaa (rpn p6 r2_4 e5 l11) e7) rp1 rp2 (fun hm=>by have:=hgp _ hm; omega) (fun hm=>by have:=hgp _ hm; omega) (fun hm=>by have h1:=hgs _ hm; have h2:=Qaq hc; omega) (fun hm=>by have h1:=hgs _ hm; have h2:=Qaq hq; omega)) (fun h k=>QbP.trans h k) QbP.book (Below.refl _ _)
   (fun pre W=>((W.heap[g4]? = some (.cells (#[.int .i64 (n:Int)]) 3))∧(W.heap[g9]? = some (.cells (#[.slice (some ⟨g8,0,none⟩) n n]) 41))∧(W.heap[g11]? = some (.cells (#[.int .i64 ((32*pre.length:Nat):Int)]) 3))∧(W.heap[g8]? = some (.cells (ints .u8 (FF key info n pre)) 5))∧(pre.length=0∨32*pre.length<n)∧W7.heap.size≤W.heap.size)∧Ext w W)
   (fun c pre W=>(c=.exit 0∧n≤32*pre.length∧(W.heap[g4]? = some (.cells (#[.int .i64 (n:Int)]) 3))∧(W.heap[g9]? = some (.cells (#[.slice (some ⟨g8,0,none⟩) n n]) 41))∧(W.heap[g8]? = some (.cells (ints .u8 (FF key info n pre)) 5)))∧Ext w W) (OwnFrom.and (Own.from (fun s A B row hs hg hr=>⟨QbH hs.1 hg hr,QbH hs.2.1 hg hr,QbH hs.2.2.1 hg hr,QbH hs.2.2.2.1 hg hr,hs.2.2.2.2.1,qT hs.2.2.2.2.2 hg.size⟩) _) (ownFrom_below (qR _) x7.size)) (fun c=>OwnFrom.and (Own.from (fun s A B row hs hg hr=>⟨hs.1,hs.2.1,QbH hs.2.2.1 hg hr,QbH hs.2.2.2.1 hg hr,QbH hs.2.2.2.2 hg hr⟩) _) (ownFrom_below (qR _) x7.size)) ⟨⟨r4_7,r9_7,r11_7,Qa9 r8_7 (Qpc key info n),.inl rfl,qR _⟩,x7⟩ (fun e=>QbP.ext e) (fun pre A B h e=>⟨⟨Qaa h.1.1 e,Qaa h.1.2.1 e,Qaa h.1.2.2.1 e,Qaa h.1.2.2.2.1 e,h.1.2.2.2.2.1,qT h.1.2.2.2.2.2 e.size⟩,zbI h.2 e⟩) (fun pre W h=>h.1.2.2.2.2.2) (fun x g=>[(10,pp g 0),(23,.agg (ints .u8 (tg key info (x+1))))]) (fun x=>ints .u8 (tg key info (x+1))) 23 (fun l x W K hK=>?_) (fun l pre x g10 W hg10 hI r10 hp=>?_) (fun D ys W lD hS hI rD=>?_) (fun D c pre W lD hSp hIx rD=>?_)
 ·skip
  refine Qbz <| Qit (ints .u8 (zaj 32 0)) 23 10 rfl (QaX l 1 _) rfl kj kj fun g301 W1 l301 e1 r301_1=>?_
  have x1:=zbL (zbH W) e1
  refine QeO g301 _ (ints .u8 (tg key info (x+1))) 23 r301_1 rfl (QaX l 1 _) rfl kj (Qaf 23 _ _ g301 23 _ _ r301_1 rfl kj kj (isz (n:=32) kj (izT (Qei _ _ _))) (eqsz (n:=32) (izT (qZ (n:=32))) (izT (Qei _ _ _))) (Qat _ _)) fun W2 p2 r301_2=>?_
  have x2:=zbK p2 x1 (qT (zbH W).size l301)
  refine QcM ?_
  exact hK _ _ l301 (zbK p2 (zbI (zbH W) e1) l301) r301_2
 ·skip
  obtain ⟨⟨q5,q8,q9,qO,hpl,hsz⟩,xx⟩:=hI
  have n105:g10≠g4:=by have h1:=Qaq r4_7; omega
  have n108:g10≠g9:=by have h1:=Qaq r9_7; omega
  have n109:g10≠g11:=by have h1:=Qaq r11_7; omega
  have n10O:g10≠g8:=by have h1:=Qaq r8_7; omega
  have hl1:(pre++[x]).length=pre.length+1:=by simp
  have htl:=Qei key info x
  refine wpIn_block <| wpIn_seq_k fun K506 hK506=>QfN (Qda g8 (Obj.cells (ints .u8 (FF key info n pre)) 5) (Obj.cells (ints .u8 (FF key info n (pre++[x]))) 5)) (Qda.refl _ _ _) (fun h k=>Qda.trans h k) 6 [⟨none,[(9,none)]⟩,⟨none,[(8,none)]⟩,⟨none,[(9,none)]⟩,⟨none,[(25,some 1),(26,some 2)]⟩,⟨none,[(10,none)]⟩,⟨none,[(27,some 3),(28,some 4)]⟩] (QaX l 1 _) rfl kj kj fun F hF=>QfR (Qda.refl _ _ _) (.int .i64 ((32*pre.length:Nat):Int)) kj kj (fun W hR=>(Qab 3 _ g11 0 3 _ (.int .i64 ((32*pre.length:Nat):Int)) _ (zbN hR.1 (Qaa q9 (Qan _)) nb9O) rfl kj kj kj)) <| QfR (Qda.refl _ _ _) (.slice (some ⟨g8,0,none⟩) n n) kj kj (fun W hR=>(Qab 41 _ g9 0 41 _ (.slice (some ⟨g8,0,none⟩) n n) _ (zbN hR.1 (Qaa q8 (Qan _)) nb8O) rfl kj kj kj)) <| QfR (Qda.refl _ _ _) (.int .i64 ((32*pre.length:Nat):Int)) kj kj (fun W hR=>(Qab 3 _ g11 0 3 _ (.int .i64 ((32*pre.length:Nat):Int)) _ (zbN hR.1 (Qaa q9 (Qan _)) nb9O) rfl kj kj kj)) <| QfR (Qda.refl _ _ _) (.slice (some ⟨g8,(if n=32*pre.length then 0 else 32*pre.length),none⟩) (n-32*pre.length) (n-32*pre.length)) kj kj (fun W hR=>QiN 41 _ _ (32*pre.length) g8 n n 5 rfl kj kj kj .i64 kj oo (qR _)) <| QfR (Qda.refl _ _ _) (.slice (some ⟨g10,0,none⟩) 32 32) kj kj (fun W hR=>kj) <| QnR (fun u W=>u=.int .i64 (((min 32 (n-32*pre.length)):Nat):Int)∧W.heap[g8]? = some (Obj.cells (ints .u8 (FF key info n (pre++[x]))) 5)) (Qda.stable _ _ _ _) kj kj (fun W hR=>?_) ?_
  ·have hsrc:RdK .u8 W.heap.size (tg key info (x+1)) (.slice (some ⟨g10,0,none⟩) 32 32) W:=QaL (Qei _ _ _) (zbN hR.1 (Qaa r10 (Qan _)) n10O) (Qaq (zbN hR.1 (Qaa r10 (Qan _)) n10O)) dd
   have hoff:(if n=32*pre.length then 0 else 32*pre.length)+(n-32*pre.length)≤n:=by split <;> omega
   rcases hR.row (Qaa qO (Qan _)) with hX | hY
   ·exact Qib (QgD (k:=.u8) (e:=5) (.tmp 27) (.tmp 28) 41 41 (by rfl) kj kj (off:=(if n=32*pre.length then 0 else 32*pre.length)) (dl:=n-32*pre.length) (dc:=n-32*pre.length) (n:=(min 32 (n-32*pre.length))) (xs:=FF key info n pre) kj kj hsrc hX (by rw [QkV]; exact hoff) (by rw [Qei]) (QkC key info n pre x hpl))
   ·exact Qib (QgD (k:=.u8) (e:=5) (.tmp 27) (.tmp 28) 41 41 (by rfl) kj kj (off:=(if n=32*pre.length then 0 else 32*pre.length)) (dl:=n-32*pre.length) (dc:=n-32*pre.length) (n:=(min 32 (n-32*pre.length))) (xs:=FF key info n (pre++[x])) kj kj hsrc hY (by rw [QkV]; exact hoff) (by rw [Qei]) (QlM key info n pre x hpl))
  refine Qc3 (hF _ fun W1 hR=>?_)
  simp only [zap,zaq,zar,zas,zat,zau,finE,up]
  rintro v29 ⟨rfl,rO_1⟩
  clear hF
  have q1:=ExtB.trans (zbM (ExtB.refl _ _) (Qan _)) hR.1
  have x1:=zbO xx q1 b8
  refine QbE (.int .i64 (((32*pre.length)+(min 32 (n-32*pre.length)):Nat):Int)) 30 rfl (QaX l 1 _) rfl kj (Qac (u:=.int .i64 (zal.wrap (((32*pre.length:Nat):Int)+(((min 32 (n-32*pre.length)):Nat):Int)))) kj (congrArg (zam .i64) (i64n _ _ oo oo))) ?_
  have r503_1:=(zbN q1 q9 nb9O)
  refine QeO g11 _ (#[.int .i64 (((32*pre.length)+(min 32 (n-32*pre.length)):Nat):Int)]) 3 r503_1 rfl (QaX l 1 _) rfl kj (Qbj 3 _ _ g11 0 3 _ (.int .i64 (((32*pre.length)+(min 32 (n-32*pre.length)):Nat):Int)) r503_1 rfl kj kj kj kj kj rfl) fun W2 p2 r503_2=>?_
  have x2:=zbK p2 x1 b11
  refine QcM <| hK506 _ _ <| wpIn_seq_k fun K507 hK507=>Qbz <| QbE (.int .i64 (((32*pre.length)+(min 32 (n-32*pre.length)):Nat):Int)) 31 rfl (QaX l 1 _) rfl kj (Qab 3 _ g11 0 3 _ (.int .i64 (((32*pre.length)+(min 32 (n-32*pre.length)):Nat):Int)) _ r503_2 rfl kj kj kj) ?_
  have r501_2:=(zbJ p2 (zbN q1 q5 nb5O) nb59)
  refine QbE (.int .i64 (n:Int)) 32 rfl (QaX l 1 _) rfl kj (Qab 3 _ g4 0 3 _ (.int .i64 (n:Int)) _ r501_2 rfl kj kj kj) <| QbE (.bool (((((32*pre.length)+(min 32 (n-32*pre.length)):Nat):Int)==(n:Int)))) 33 rfl (QaX l 1 _) rfl kj kj <| QcM <| hK507 _ _ <| Qdf (t:=((((32*pre.length)+(min 32 (n-32*pre.length)):Nat):Int)==(n:Int))) kj (fun c508=>?_) (fun c508=>?_)
  ·skip
   have hm:32*pre.length+min 32 (n-32*pre.length)=n∨32*pre.length+min 32 (n-32*pre.length)≠n:=by omega
   have hge:n≤32*(pre.length+1):=by have:=eq_of_beq c508; omega
   refine wpIn_exit ?_
   repeat (first | with_reducible refine goX1 ?_ | with_reducible refine goXo dd ?_)
   have r502_1:=(zbN q1 q8 nb8O)
   have r502_2:=(zbJ p2 r502_1 nb89)
   have r504_2:=(zbJ p2 rO_1 nbO9)
   exact ⟨((Qha q1 qO).trans (QfM p2 r503_1)),⟨rfl,by rw [hl1]; exact hge,r501_2,r502_2,r504_2⟩,x2⟩
  ·skip
   have hm:32*pre.length+min 32 (n-32*pre.length)=n∨32*pre.length+min 32 (n-32*pre.length)≠n:=by omega
   have hlt:32*(pre.length+1)<n:=by
    have h:=c508
    apply Decidable.byContradiction
    intro hc2
    have e:((32*pre.length+min 32 (n-32*pre.length):Nat):Int)=(n:Int):=by omega
    rw [e,beq_self_eq_true] at h
    exact absurd h dd
   refine wpIn_skip ?_
   with_reducible repeat first | refine goX1 ?_ | refine goX2 ?_ | refine goX3 ?_
   have r502_1:=(zbN q1 q8 nb8O)
   have r502_2:=(zbJ p2 r502_1 nb89)
   have r504_2:=(zbJ p2 rO_1 nbO9)
   exact ⟨((Qha q1 qO).trans (QfM p2 r503_1)),(QbP.trans (Qkt q1 (by simp)) (Qjf p2 (by simp))),⟨r501_2,r502_2,by rw [hl1,show 32*(pre.length+1)=32*pre.length+min 32 (n-32*pre.length) by omega]; exact r503_2,r504_2,.inr (by rw [hl1]; exact hlt),qT hsz (qT (qT (qR _) q1.2.2.2.1) (qE p2.2.2.2.1.symm))⟩,x2⟩
 ·exfalso
  obtain ⟨⟨-,-,-,-,hpl,-⟩,-⟩:=hI
  subst hS
  rw [zbp] at hpl
  omega
 ·obtain ⟨⟨rfl,hge,q5,q8,qO⟩,xx⟩:=hIx
  obtain ⟨kR,rfl,-⟩:=hSp
  rw [zbp] at hge
  rw [QnN key info n kR hge] at qO
  have bD:w.heap.size≤D:=qT x7.size lD
  refine wp_exit <| hK13 _ _ <| sgC fun K17 hK17=>sv (.slice (some ⟨g8,0,none⟩) n n) 34 (Qab 41 _ g9 0 41 _ (.slice (some ⟨g8,0,none⟩) n n) _ q8 rfl kj kj kj) <| sg 2 kj <| sgN hK17 <| wp_ret ?_
  with_reducible repeat first | refine goR1 ?_ | refine goR2 ?_
  exact (show bodyPostM _ _ _ _ _ .ret _ _ from QmP (.slice (some ⟨g8,0,none⟩) n n) (.nilIface) rfl rD (Qax kj) (Qax kj) ⟨_,rfl,Qgf xx bD rD _,_,kR,rfl,hge,Qb3 (Ql4 key info n kR hge) b8 (Qge qO rD _) (by simp only [maxLen]; omega)⟩)
end Sha
end
section
namespace Sha
open Go Go.RowKit
open Rely Auto Own
def kx (key info:List Int) (n:Nat):List Int:=(okm key info n).take n
theorem Qh4 (key info:List Int) (n:Nat):∀ (k d:Nat),n≤32*k→(okm key info (k+d)).take n=(okm key info k).take n
  | k,0,_=>rfl
  | k,d+1,h=>by
    rw [show k+(d+1)=(k+d)+1 by omega,okm,zaJ (by rw [QdD]; omega),Qh4 key info n k d h]
theorem QoK (key info:List Int) (n k:Nat) (h:n≤32*k):(okm key info k).take n=kx key info n:=by
  unfold kx
  rcases Nat.le_total k n with h1 | h1
  · obtain ⟨d,rfl⟩:∃ d,n=k+d:=⟨n-k,by omega⟩
    exact (Qh4 key info _ k d h).symm
  · obtain ⟨d,rfl⟩:∃ d,k=n+d:=⟨k-n,by omega⟩
    exact Qh4 key info _ n d oo
theorem QbR (key info:List Int) (n:Nat):(kx key info n).length=n:=by unfold kx; rw [zai,QdD]; omega
theorem QgO (key info:List Int):∀ k,Qak (okm key info k)
  | 0=>fun x hx=>by cases hx
  | k+1=>bytes_app (QgO key info k) (QfV key info (k+1))
theorem Qip (key info:List Int) (n:Nat):Qak (kx key info n):=fun x hx=>QgO key info n x (zaL hx)
theorem QlF (key info:List Int) (v1 v2:Value) (B B2 n:Nat) (tc tq:TypeId) (w:World) (hc:w.heap[4]? = some (.cells (ints .u64 QaM) tc)) (hq:w.heap[3]? = some (.cells (ints .u64 Qa5) tq)) (hn:n≤8160) (hkl:key.length≤800000000) (hil:info.length≤700000000) (hkb:Qak key) (hib:Qak info) (hk:RdK .u8 B key v1 w) (hi:RdK .u8 B2 info v2 w) :
    Calls Tryz.prog 84 #[v1,v2,.int .i64 (n:Int)] w (Qby w (fun v W=>∃ u,v=.tuple #[u,.nilIface]∧OwnN .u8 5 w.heap.size (kx key info n) u W)) :=
  (QlG key info v1 v2 B B2 n tc tq w hc hq hn hkl hil hkb hib hk hi).mono fun e W' ⟨v,h1,h2,u,k,h3,h4,h5⟩=>⟨v,h1,h2,u,h3,QoK key info n k h4▸h5⟩
end Sha
end
section
namespace Sha
open Go Go.RowKit
open Rely Auto Own
section
variable {P : Program} {ρ : Operand → Value} {o : Oper} {w : World}
theorem QiP {k : IntKind} (t:TypeId) (x y:Operand) (kl kc:IntKind) (n:Nat) (e:TypeId) (ho:o.op=.makeSlice t x y) (hx:ρ x=.int kl 0) (hy:ρ y=.int kc n)
    (hu:P.underlying t=some (.slice e)) (hi:(P.info? e).map (fun i=>(i.zero,i.size,i.bytes))=some (some (.int k 0),1,1)) (hn:n≤1000000000) :
    (execOp ρ o).run P w=.ok (.value (.slice (some ⟨w.heap.size,0,none⟩) 0 n)) (w.alloc (.cells (ints k (zaj n 0)) e)):=by
  cases hq:P.info? e with
  | none=>simp [hq] at hi
  | some i =>
    have hz:i.zero=some (.int k 0)∧i.size=1∧i.bytes=1:=by simpa [hq] using hi
    have hb:(i.bytes:Int)*(n:Int)≤281474976710656:=by rw [hz.2.2]; omega
    have h:=run_make w t e i (.int k 0) hu hq hz.1 kl kc 0 (n:Int) oo oo hb oo
    rw [hz.2.1,Int.toNat_natCast,Qfm] at h
    unfold execOp
    simp only [ho,hx,hy,za0,za2,h,za1]
    rfl
theorem Qht (t : TypeId) (x z:Operand) (h:Nat) (e:TypeId) (ho:o.op=.slice t x none (some z) none) {a:Option Addr} {len cap:Nat} (hx:ρ x=.slice a len cap)
    (hu:P.underlying t=some (.slice e)) (hs:(P.info? e).map (·.size)=some 1) (kz:IntKind) (hz:ρ z=.int kz (h:Int)) (h2:h≤cap) :
    (execOp ρ o).run P w=.ok (.value (.slice a h cap)) w:=by
  cases hq:P.info? e with
  | none=>simp [hq] at hs
  | some i =>
    have hs':i.size=1:=by simpa [hq] using hs
    unfold execOp
    have hadd:∀ a:Option Addr,Option.map (fun x=>x.add 0) a=a:=fun a=>by
      cases a with
      | none=>rfl
      | some a=>obtain ⟨b,o,s⟩:=a; cases s <;> simp [Addr.add]
    simp [ho,hx,hz,Instr.sliceAt,Instr.slice,Instr.sliceBounds,run_sliceBound,run_underlying hu,sizeOf,typeInfo,hq,hs',h2,hadd]
end
section
variable {ds : List Deferred} {P : Program} {ops : Array Oper} {Q : Exit → Act → World → Prop} {rest : List Oper} {o : Oper} {N : Nat} {L : Env} {w : World}
theorem QiL (cs : Array Value) (T:TypeId) (n d:Nat) (hd:o.dst=some d) (hg:Qbp ops o N L=some true) (h:(execOp (Rely.look (envN N L)) o).run P w=.ok (.value (.slice (some ⟨w.heap.size,0,none⟩) 0 n)) (w.alloc (.cells cs T)))
    (k:∀ (g:Nat) (W:World),w.heap.size≤g→Ext w W→W.heap[g]? = some (.cells cs T)→WL P ops Q rest (Qav ds N ((d,.slice (some ⟨g,0,none⟩) 0 n)::L)) W):WL P ops Q (o::rest) (Qav ds N L) w :=
  Qbs _ _ d hd hg h (k _ _ (qR _) (Qbi _ _) (heap_alloc_new _ _))
end
def strB (s : ByteArray):List Int:=s.data.toList.map fun b=>(b.toNat:Int)
theorem Qch (s : ByteArray):(strB s).length=s.size:=by unfold strB; rw [zaF,zaS]; rfl
theorem Qf7 (s : ByteArray):Qak (strB s):=fun x hx=>by
  unfold strB at hx
  obtain ⟨b,-,rfl⟩:=zab.1 hx
  have:=b.toNat_lt
  omega
theorem QiH (s : ByteArray):Lib.strCells s=(strB s).map (zam .u8):=by unfold Lib.strCells strB; rw [zbt]; rfl
theorem Qmc {P : Program} {T:TypeId} {ρ:Operand→Value} {o:Oper} {W:World} (s x:Operand) (t u:TypeId) (ho:o.op=.call { callee:=.builtin .append,args:=#[s,x],argTypes:=#[t,u] })
    (ht:P.underlying t=some (.slice T)) (hu:P.underlying u=some .string) (hi:(P.info? T).map (fun i=>(i.zero,i.size,i.bytes))=some (some (.int .u8 0),1,1)) {base:Nat} {v:Value} {xs:List Int} {lab:ByteArray} (hs:ρ s=v) (hx:ρ x=.string lab)
    (h:OwnN .u8 T base xs v W) (hn:xs.length+(strB lab).length≤1000000000) (hbase:base≤W.heap.size) :
    ∃ v' W',(execOp ρ o).run P W=.ok (.value v') W'∧OwnN .u8 T base (xs++strB lab) v' W'∧W.grownBy W' v.ownBlock:=by
  obtain ⟨i,hq,hi1,hi2,hi3⟩:=QlJ hi
  rw [Qch] at hn
  obtain ⟨v',W',hr,h2,h3,_⟩:=Lib.run_append_own_string (P:=P) W base t u o.type T i ht hu hq hi1 hi2 hi3 v xs.length (xs.map (zam .u8)) h.1 lab (by simp only [maxLen]; omega) oo hbase
  refine ⟨v',W',?_,⟨?_,by rw [za6,Qch]; simp only [maxLen]; omega⟩,h3⟩
  · unfold execOp
    simp only [ho,resolve,invoke,builtin,za0,za2,za1,zaT,zaU,zaV,hs,hx,hr]
  · rw [za6,zaO,Qch,←QiH]; exact h2
section
variable {ds : List Deferred} {P : Program} {ops : Array Oper} {Q : Exit → Act → World → Prop} {rest : List Oper} {o : Oper} {N : Nat} {L : Env} {W : World}
theorem Qfa {T : TypeId} (s x:Operand) (t u:TypeId) (ho:o.op=.call { callee:=.builtin .append,args:=#[s,x],argTypes:=#[t,u] })
    (ht:P.underlying t=some (.slice T)) (hu:P.underlying u=some .string) (hi:(P.info? T).map (fun i=>(i.zero,i.size,i.bytes))=some (some (.int .u8 0),1,1)) (d:Nat) (hd:o.dst=some d) (hg:Qbp ops o N L=some true) {v:Value} {xs:List Int} {lab:ByteArray} {V:World}
    (hs:Rely.look (envN N L) s=v) (hx:Rely.look (envN N L) x=.string lab)
    (h:OwnN .u8 T V.heap.size xs v W) (hn:xs.length+(strB lab).length≤1000000000) (hV:Ext V W)
    (kk:∀ (z:Value) (W':World),OwnN .u8 T V.heap.size (xs++strB lab) z W'→Ext V W'→Below V.heap.size W W'→WL P ops Q rest (Qav ds N ((d,z)::L)) W'):WL P ops Q (o::rest) (Qav ds N L) W:=by
  obtain ⟨v',W',h1,h2,h3⟩:=Qmc (ρ:=Rely.look (envN N L)) (o:=o) (W:=W) s x t u ho ht hu hi hs hx h hn hV.size
  exact Qbs _ _ d hd hg h1 (kk v' W' h2 (Qft hV h h3) ⟨h3.os,h3.tape,h3.output,h3.size,fun i hi=>h3.block i (qL hi hV.size) (fun q=>by have:=h.ge q.symm; omega)⟩)
end
theorem Qjo {n : Nat} {W W':World} (h:Below n W.drew W') (hn:n≤W.heap.size):Below n W W':=Below.trans ((Qan W).mono hn) h
theorem shrN (a : Nat) (s:Int) (c:Nat) (h:(2:Int)^min s.toNat zal.bits=(c:Int)):(a:Int).fdiv (2^min s.toNat zal.bits)=((a/c:Nat):Int):=by
  rw [h,zaH _ oo]; exact (Int.natCast_ediv a c).symm
theorem Qee (a b:Nat) (h:a%256=b):zaf.wrap (a:Int)=(b:Int):=by rw [QkN,h]
def Qc2 (lab : List Int) (n:Nat):List Int:=[((n/256:Nat):Int),((n%256:Nat):Int),(lab.length:Int)]
def QdI (c : Nat):List Int:=[((c/16777216:Nat):Int),((c/65536%256:Nat):Int),((c/256%256:Nat):Int),((c%256:Nat):Int)]
def Qb8 (lab ctx:List Int) (n:Nat):List Int:=Qc2 lab n++lab++QdI ctx.length++ctx
theorem Qhc (lab ctx:List Int) (n:Nat):(Qb8 lab ctx n).length=lab.length+ctx.length+7:=by
  unfold Qb8 Qc2 QdI
  simp only [za6,zbr,zbu]; omega
theorem Qfp (lab ctx:List Int) (n:Nat) (hl:Qak lab) (hc:Qak ctx) (h1:lab.length≤255) (h2:ctx.length≤65536) (h3:n≤8160):Qak (Qb8 lab ctx n):=by
  unfold Qb8 Qc2 QdI
  refine bytes_app (bytes_app (bytes_app ?_ hl) ?_) hc
  · intro x hx
    simp only [zbb,zbc,or_false] at hx
    omega
  · intro x hx
    simp only [zbb,zbc,or_false] at hx
    omega
theorem Qnw (sec ctx:List Int) (s:ByteArray) (v2:Value) (B2:Nat) (tc tq:TypeId) (w:World) (hc:w.heap[4]? = some (.cells (ints .u64 QaM) tc)) (hq:w.heap[3]? = some (.cells (ints .u64 Qa5) tq)) (hsl:sec.length=32) (hsb:Qak sec) (hxb:Qak ctx) (hx:RdK .u8 B2 ctx v2 w) (n:Int) (h0:0≤n) (h1:n≤8160) (h:255<(strB s).length):Calls Tryz.prog 68 #[.agg (ints .u8 sec),.string s,v2,.int .i64 n] w (Ret w (.tuple #[.slice none 0 0,.iface 49 (.int .i64 4)])):=by
  obtain ⟨a_ctx,c_ctx,rfl,-⟩:=id hx
  refine enter 75 [(0,.agg (ints .u8 (sec))),(1,.string s),(2,.slice a_ctx ctx.length c_ctx),(3,.int .i64 n)] Tryz.func68 rfl rfl kk rfl <| sgC fun K3 hK3=>Qah (ints .u8 (sec)) 23 4 rfl kk kk fun g4 W1 l4 e1 r4_1=>?_
  have b4:=qT (zbH w).size l4
  refine sv (.slice none 0 0) 8 kk <| sv (.nilIface) 9 kk <| sgN hK3 <| wp_seq_k fun K5 hK5=>sgC fun K6 hK6=>sv (.int .i64 n) 12 kk <| sv (.bool false) 13 (Qac (u:=.bool (decide (n<0))) kk (congrArg zax (decide_eq_false oo))) <| sv (.bool false) 14 kk <| sv (.int .i64 n) 15 kk <| sv (.bool false) 16 (Qac (u:=.bool (decide (n>8160))) kk (congrArg zax (decide_eq_false oo))) ?_
  refine sv (.bool false) 17 kk <| sv (.bool false) 18 kk <| sv (.string s) 19 kk <| sv (.int .i64 (((strB s).length:Nat):Int)) 20 (Qac (u:=.int .i64 (s.size:Int)) kk (congrArg (fun z:Nat=>zam .i64 (z:Int)) (Qch s).symm)) <| sv (.bool true) 21 (Qac (u:=.bool (decide ((((strB s).length:Nat):Int)>255))) kk (congrArg zax (decide_eq_true oo))) <| sv (.bool true) 22 kk <| sv (.bool true) 23 kk <| QeH 24 rfl kk <| QeH 25 rfl kk <| QeH 26 rfl kk ?_
  refine sv (.bool true) 27 kk <| sgN hK6 <| cond_true kk <| sgC fun K7 hK7=>sv (.iface 49 (.int .i64 4)) 28 kk <| sv (.slice none 0 0) 8 kk <| sv (.iface 49 (.int .i64 4)) 9 kk <| sgN hK7 <| wp_ret ?_
  with_reducible repeat first | refine goR1 ?_ | refine goR2 ?_
  exact (show bodyPost _ _ _ .ret _ _ from ret2 (.slice none 0 0) (.iface 49 (.int .i64 4)) rfl (Qax kk) (Qax kk) ⟨rfl,(zbL (zbH w) e1)⟩)
theorem Qm0 (sec ctx:List Int) (s:ByteArray) (v2:Value) (B2:Nat) (tc tq:TypeId) (w:World) (hc:w.heap[4]? = some (.cells (ints .u64 QaM) tc)) (hq:w.heap[3]? = some (.cells (ints .u64 Qa5) tq)) (hsl:sec.length=32) (hsb:Qak sec) (hxb:Qak ctx) (hx:RdK .u8 B2 ctx v2 w) (n:Nat) (hn:n≤8160) (hl:(strB s).length≤255) (hc2:ctx.length≤65536):Calls Tryz.prog 68 #[.agg (ints .u8 sec),.string s,v2,.int .i64 (n:Int)] w (Qby w (fun v W=>∃ u,v=.tuple #[u,.nilIface]∧OwnN .u8 5 w.heap.size (kx sec (Qb8 (strB s) ctx n) n) u W)):=by
  obtain ⟨a_ctx,c_ctx,rfl,-⟩:=id hx
  refine enter 75 [(0,.agg (ints .u8 (sec))),(1,.string s),(2,.slice a_ctx ctx.length c_ctx),(3,.int .i64 (n:Int))] Tryz.func68 rfl rfl kk rfl <| sgC fun K3 hK3=>Qah (ints .u8 (sec)) 23 4 rfl kk kk fun g4 W1 l4 e1 r4_1=>?_
  have x1:=zbL (zbH w) e1
  have b4:=qT (zbH w).size l4
  refine sv (.slice none 0 0) 8 kk <| sv (.nilIface) 9 kk <| sgN hK3 <| wp_seq_k fun K5 hK5=>sgC fun K6 hK6=>sv (.int .i64 (n:Int)) 12 kk <| sv (.bool false) 13 (Qac (u:=.bool (decide ((n:Int)<0))) kk (congrArg zax (decide_eq_false oo))) <| sv (.bool false) 14 kk <| sv (.int .i64 (n:Int)) 15 kk <| sv (.bool false) 16 (Qac (u:=.bool (decide ((n:Int)>8160))) kk (congrArg zax (decide_eq_false oo))) ?_
  refine sv (.bool false) 17 kk <| sv (.bool false) 18 kk <| sv (.string s) 19 kk <| sv (.int .i64 (((strB s).length:Nat):Int)) 20 (Qac (u:=.int .i64 (s.size:Int)) kk (congrArg (fun z:Nat=>zam .i64 (z:Int)) (Qch s).symm)) <| sv (.bool false) 21 (Qac (u:=.bool (decide ((((strB s).length:Nat):Int)>255))) kk (congrArg zax (decide_eq_false oo))) <| sv (.bool false) 22 kk <| sv (.bool false) 23 kk <| sv (.slice a_ctx ctx.length c_ctx) 24 kk <| sv (.int .i64 (ctx.length:Int)) 25 kk <| sv (.bool false) 26 (Qac (u:=.bool (decide ((ctx.length:Int)>65536))) kk (congrArg zax (decide_eq_false oo))) ?_
  refine sv (.bool false) 27 kk <| sgN hK6 <| cond_false kk <| wp_skip <| hK5 _ _ <| sgC fun K7 hK7=>sv (.string s) 29 kk <| sv (.int .i64 (((strB s).length:Nat):Int)) 30 (Qac (u:=.int .i64 (s.size:Int)) kk (congrArg (fun z:Nat=>zam .i64 (z:Int)) (Qch s).symm)) <| sv (.int .i64 ((7+((strB s).length):Nat):Int)) 31 (Qac (u:=.int .i64 (zal.wrap (7+(((strB s).length:Nat):Int)))) kk (congrArg (zam .i64) (i64n _ _ oo oo))) <| sv (.slice a_ctx ctx.length c_ctx) 32 kk ?_
  refine sv (.int .i64 (ctx.length:Int)) 33 kk <| sv (.int .i64 (((7+((strB s).length))+ctx.length:Nat):Int)) 34 (Qac (u:=.int .i64 (zal.wrap (((7+((strB s).length):Nat):Int)+(ctx.length:Int)))) kk (congrArg (zam .i64) (i64n _ _ oo oo))) <| QiL (ints .u8 (zaj (7+(strB s).length+ctx.length) 0)) 5 (7+(strB s).length+ctx.length) 35 rfl kk (QiP 41 _ _ .i64 .i64 (7+(strB s).length+ctx.length) 5 rfl kk kk kk kk oo) fun g8 W2 l8 e2 r8_2=>?_
  have x2:=zbL x1 e2
  have b8:=qT x1.size l8
  have hz0:OwnN .u8 5 W1.heap.size [] (.slice (some ⟨g8,0,none⟩) 0 (7+(strB s).length+ctx.length)) W2:=Qgi (n:=0) rfl l8 r8_2 (by rw [Qbq,qZ]) (zak _) (by simp only [maxLen]; omega) rfl
  refine sv (.slice (some ⟨g8,0,none⟩) 0 (7+(strB s).length+ctx.length)) 10 kk <| sgN hK7 <| sgC fun K9 hK9=>sv (.slice (some ⟨g8,0,none⟩) 0 (7+(strB s).length+ctx.length)) 36 kk <| sv (.int .i64 (n:Int)) 37 kk <| sv (.int .i64 ((n/256:Nat):Int)) 38 (QaO .shr _ _ _ _ .i64 .u64 _ _ _ rfl kk kk (Qcd _ _ _ _ _ _ dd (shrN n 8 256 dd))) <| sv (.int .u8 ((n/256:Nat):Int)) 39 (Qac (u:=.int .u8 (zaf.wrap ((n/256:Nat):Int))) kk (congrArg (zam .u8) (Qee (n/256) (n/256) oo))) <| sv (.int .i64 (n:Int)) 40 kk <| sv (.int .u8 ((n%256:Nat):Int)) 41 (Qac (u:=.int .u8 (zaf.wrap (n:Int))) kk (congrArg (zam .u8) (Qee (n) (n%256) oo))) <| sv (.string s) 42 kk ?_
  refine sv (.int .i64 (((strB s).length:Nat):Int)) 43 (Qac (u:=.int .i64 (s.size:Int)) kk (congrArg (fun z:Nat=>zam .i64 (z:Int)) (Qch s).symm)) <| sv (.int .u8 ((((strB s).length:Nat):Int))) 44 (Qac (u:=.int .u8 (zaf.wrap (((strB s).length:Nat):Int))) kk (congrArg (zam .u8) (Qee ((strB s).length) ((strB s).length) oo))) <| QaA (ints .u8 ([((n/256:Nat):Int),((n%256:Nat):Int),((((strB s).length:Nat):Int))])) 5 3 45 rfl kk kk fun g10 W3 l10 e3 r10_3=>?_
  have b10:=qT x2.size l10
  refine QaH (k:=.u8) (T:=5) (xs:=[]) (ys:=[((n/256:Nat):Int),((n%256:Nat):Int),((((strB s).length:Nat):Int))]) (V:=W1) 1 (.tmp 36) (.tmp 45) 41 rfl kk kk dd 46 rfl kk kk kk (hz0.ext e3) (QaL (xs:=[((n/256:Nat):Int),((n%256:Nat):Int),((((strB s).length:Nat):Int))]) (n:=3) rfl r10_3 (Qaq r10_3) (show 3≤maxLen from by decide)) (by have:(Qc2 (strB s) n).length=3:=rfl; have:(QdI ctx.length).length=4:=rfl; simp only [za6,zbr,zbu]; omega) (zbI (zbI (zbH W1) e2) e3) fun z1 W4 f12 y4 l4=>?_
  have hu14:OwnN .u8 5 W1.heap.size (Qc2 (strB s) n) z1 W4:=f12
  refine sv (z1) 10 kk <| sgN hK9 <| sgC fun K15 hK15=>sv (z1) 47 kk <| sv (.string s) 48 kk <| Qfa (T:=5) (xs:=Qc2 (strB s) n) (lab:=s) (V:=W1) (.tmp 47) (.tmp 48) 41 9 rfl kk kk kk 49 rfl kk kk kk hu14 (by have:(Qc2 (strB s) n).length=3:=rfl; (try simp only [za6,zbr,zbu]); omega) y4 fun z2 W5 f16 y5 l5=>?_
  have x5:=Ext.low (Ext.low (zbL x2 e3) l4 x1.size) l5 x1.size
  have hu17:OwnN .u8 5 W1.heap.size (Qc2 (strB s) n++strB s) z2 W5:=f16
  refine sv (z2) 10 kk <| sgN hK15 <| sgC fun K18 hK18=>sv (.slice a_ctx ctx.length c_ctx) 50 kk <| sv (.int .i64 (ctx.length:Int)) 51 kk <| sv (.int .i64 (ctx.length:Int)) 11 kk <| sgN hK18 <| sgC fun K19 hK19=>sv (z2) 52 kk <| sv (.int .i64 (ctx.length:Int)) 53 kk ?_
  refine sv (.int .i64 ((ctx.length/16777216:Nat):Int)) 54 (QaO .shr _ _ _ _ .i64 .u64 _ _ _ rfl kk kk (Qcd _ _ _ _ _ _ dd (shrN ctx.length 24 16777216 dd))) <| sv (.int .u8 ((ctx.length/16777216:Nat):Int)) 55 (Qac (u:=.int .u8 (zaf.wrap ((ctx.length/16777216:Nat):Int))) kk (congrArg (zam .u8) (Qee (ctx.length/16777216) (ctx.length/16777216) oo))) <| sv (.int .i64 (ctx.length:Int)) 56 kk <| sv (.int .i64 ((ctx.length/65536:Nat):Int)) 57 (QaO .shr _ _ _ _ .i64 .u64 _ _ _ rfl kk kk (Qcd _ _ _ _ _ _ dd (shrN ctx.length 16 65536 dd))) <| sv (.int .u8 ((ctx.length/65536%256:Nat):Int)) 58 (Qac (u:=.int .u8 (zaf.wrap ((ctx.length/65536:Nat):Int))) kk (congrArg (zam .u8) (Qee (ctx.length/65536) (ctx.length/65536%256) oo))) <| sv (.int .i64 (ctx.length:Int)) 59 kk <| sv (.int .i64 ((ctx.length/256:Nat):Int)) 60 (QaO .shr _ _ _ _ .i64 .u64 _ _ _ rfl kk kk (Qcd _ _ _ _ _ _ dd (shrN ctx.length 8 256 dd))) <| sv (.int .u8 ((ctx.length/256%256:Nat):Int)) 61 (Qac (u:=.int .u8 (zaf.wrap ((ctx.length/256:Nat):Int))) kk (congrArg (zam .u8) (Qee (ctx.length/256) (ctx.length/256%256) oo))) <| sv (.int .i64 (ctx.length:Int)) 62 kk <| sv (.int .u8 ((ctx.length%256:Nat):Int)) 63 (Qac (u:=.int .u8 (zaf.wrap (ctx.length:Int))) kk (congrArg (zam .u8) (Qee (ctx.length) (ctx.length%256) oo))) ?_
  refine QaA (ints .u8 ([((ctx.length/16777216:Nat):Int),((ctx.length/65536%256:Nat):Int),((ctx.length/256%256:Nat):Int),((ctx.length%256:Nat):Int)])) 5 4 64 rfl kk kk fun g20 W6 l20 e6 r20_6=>?_
  have b20:=qT x5.size l20
  refine QaH (k:=.u8) (T:=5) (xs:=Qc2 (strB s) n++strB s) (ys:=[((ctx.length/16777216:Nat):Int),((ctx.length/65536%256:Nat):Int),((ctx.length/256%256:Nat):Int),((ctx.length%256:Nat):Int)]) (V:=W1) 1 (.tmp 52) (.tmp 64) 41 rfl kk kk dd 65 rfl kk kk kk (hu17.ext e6) (QaL (xs:=[((ctx.length/16777216:Nat):Int),((ctx.length/65536%256:Nat):Int),((ctx.length/256%256:Nat):Int),((ctx.length%256:Nat):Int)]) (n:=4) rfl r20_6 (Qaq r20_6) (show 4≤maxLen from by decide)) (by have:(Qc2 (strB s) n).length=3:=rfl; have:(QdI ctx.length).length=4:=rfl; simp only [za6,zbr,zbu]; omega) (zbI y5 e6) fun z3 W7 f22 y7 l7=>?_
  have x7:=Ext.low (zbL x5 e6) l7 x1.size
  have hu24:OwnN .u8 5 W1.heap.size ((Qc2 (strB s) n++strB s)++QdI ctx.length) z3 W7:=f22
  refine sv (z3) 10 kk <| sgN hK19 <| sgC fun K25 hK25=>sv (z3) 66 kk <| sv (.slice a_ctx ctx.length c_ctx) 67 kk <| QaH (k:=.u8) (T:=5) (xs:=(Qc2 (strB s) n++strB s)++QdI ctx.length) (ys:=ctx) (V:=W1) 1 (.tmp 66) (.tmp 67) 41 rfl kk kk dd 68 rfl kk kk kk hu24 (zbQ hx x7) (by have:(Qc2 (strB s) n).length=3:=rfl; have:(QdI ctx.length).length=4:=rfl; simp only [za6,zbr,zbu]; omega) y7 fun z4 W8 f26 y8 l8=>?_
  have x8:=Ext.low x7 l8 x1.size
  have hu28:OwnN .u8 5 W1.heap.size (Qb8 (strB s) ctx n) z4 W8:=f26
  refine sv (z4) 10 kk <| sgN hK25 <| sgC fun K29 hK29=>sv (.slice (some ⟨g4,0,none⟩) 32 32) 69 kk <| sv (z4) 70 kk <| sv (.int .i64 (n:Int)) 71 kk ?_
  obtain ⟨ai30,ci30,hai30,-⟩:=id (zbR hu28)
  have r1_1:=(Qaa hc e1)
  have r2_1:=(Qaa hq e1)
  have r4_8:=(Qbk l8 (Qbk l7 (Qaa (Qbk l5 (Qbk l4 (Qaa (Qaa r4_1 e2) e3) (Qaq r4_1)) (Qaq r4_1)) e6) (Qaq r4_1)) (Qaq r4_1))
  refine Qau (fun v W'=>(fun v W=>∃ u,v=.tuple #[u,.nilIface]∧OwnN .u8 5 W8.heap.size (kx sec (Qb8 (strB s) ctx n) n) u W) v W'∧Ext W8 W') 84 #[.slice (some ⟨g4,0,none⟩) 32 32,z4,.int .i64 (n:Int)] 72 rfl kk kk ((QlF sec (Qb8 (strB s) ctx n) _ _ _ _ n tc tq _ (Qbk l8 (Qbk l7 (Qaa (Qbk l5 (Qbk l4 (Qaa (Qaa r1_1 e2) e3) (Qaq r1_1)) (Qaq r1_1)) e6) (Qaq r1_1)) (Qaq r1_1)) (Qbk l8 (Qbk l7 (Qaa (Qbk l5 (Qbk l4 (Qaa (Qaa r2_1 e2) e3) (Qaq r2_1)) (Qaq r2_1)) e6) (Qaq r2_1)) (Qaq r2_1)) hn oo (by rw [Qhc]; omega) hsb (Qfp _ _ _ (Qf7 s) hxb hl hc2 hn) (QaL (xs:=sec) (n:=32) hsl r4_8 (Qaq r4_8) (show 32≤maxLen from by decide)) (zbR hu28)).mono mo1) fun vv31 W9 hh31=>?_
  obtain ⟨hv31,e9⟩:=hh31
  obtain ⟨uu,rfl,huu⟩:=hv31
  refine sv (uu) 73 kk <| sv (.nilIface) 74 kk <| sv (uu) 8 kk <| sv (.nilIface) 9 kk <| sgN hK29 <| wp_ret ?_
  with_reducible repeat first | refine goR1 ?_ | refine goR2 ?_
  exact (show bodyPost _ _ _ .ret _ _ from ret2 (uu) (.nilIface) rfl (Qax kk) (Qax kk) ⟨_,rfl,(zbL x8 e9),uu,rfl,OwnN.base x8.size huu⟩)
end Sha
end
section
namespace Sha
open Go Go.RowKit
open Rely Auto Own
theorem run_sap {P : Program} {ρ:Operand→Value} {o:Oper} {w:World} (t:TypeId) (x:Operand) (n:Nat) (e:TypeId) {a:Option Addr} {len cap:Nat} (ho:o.op=.sliceToArrayPointer t x) (hx:ρ x=.slice a len cap) (hu:P.underlying t=some (.array n e)) (h:n≤len) :
    (execOp ρ o).run P w=.ok (.value (.pointer a)) w:=by
  unfold execOp
  simp [ho,hx,Instr.arrayAt,run_underlying hu,Nat.not_lt.2 h]
theorem Qhb {k : IntKind} {cur:Array Value} {xs:List Int} (h:cur.toList.take xs.length=xs.map (zam k)):∀ j v,(ints k xs)[j]? = some v→cur[0+j]? = some v:=fun j v hv=>by
  rw [za3]
  have hj:j<xs.length:=by
    have:=(za4.1 hv).1
    rwa [Qbq] at this
  rw [QdF h hj,←hv,QaD _ _ _ hj]
def fillL (xs : List Int) (n i:Nat):List Int:=xs.take i++zaj (n-i) 0
theorem fillL_len (xs : List Int) (n i:Nat) (h:xs.length=n) (hi:i≤n):(fillL xs n i).length=n:=by unfold fillL; rw [za6,zai,qZ]; omega
theorem fillL_zero (xs : List Int) (n:Nat):zaj n 0=fillL xs n 0:=by unfold fillL; rw [zas,Nat.sub_zero]; rfl
theorem fillL_full (xs : List Int) (n:Nat) (h:xs.length=n):fillL xs n n=xs:=by unfold fillL; rw [zaB,zbs,zbi,zaw oo]
theorem fillL_step (xs : List Int) (n i:Nat) (h:xs.length=n) (hi:i<n):(fillL xs n i).set i (nth xs i)=fillL xs n (i+1):=by
  have hl:(xs.take i).length=i:=by rw [zai]; omega
  unfold fillL
  rw [zba _ _ oo,hl,zaB,show n-i=(n-(i+1))+1 by omega,zaY,zaZ]
  have e:xs.take (i+1)=xs.take i++[nth xs i]:=by
    rw [zbd,zbe oo]
    simp [nth,show i<xs.length by omega]
  rw [e,zaR]
  rfl
def Qb7 (sec lab:List Int):List Int:=if lab.length≤255 then kx sec (Qb8 lab [] 32) 32 else zaj 32 0
theorem QdJ (sec lab:List Int):(Qb7 sec lab).length=32:=by
  unfold Qb7
  split
  · exact QbR _ _ _
  · exact qZ
theorem nilrd (W : World):RdK .u8 W.heap.size [] (.slice none 0 0) W:=zbR (Qb5 .u8 0 0 W)
theorem QlU (sec : List Int) (s:ByteArray) (tc tq:TypeId) (w:World) (hc:w.heap[4]? = some (.cells (ints .u64 QaM) tc)) (hq:w.heap[3]? = some (.cells (ints .u64 Qa5) tq)) (hsl:sec.length=32) (hsb:Qak sec) (h:(strB s).length≤255):Calls Tryz.prog 47 #[.agg (ints .u8 sec),.string s] w (Ret w (.agg (ints .u8 (Qb7 sec (strB s))))):=by
  refine enter 19 [(0,.agg (ints .u8 (sec))),(1,.string s)] Tryz.func47 rfl rfl kj rfl <| sgC fun K3 hK3=>Qah (ints .u8 (sec)) 23 2 rfl kj kj fun g4 W1 l4 e1 r4_1=>?_
  have x1:=zbL (zbH w) e1
  have b4:=qT (zbH w).size l4
  refine Qah (ints .u8 (zaj 32 0)) 23 4 rfl kj kj fun g5 W2 l5 e2 r5_2=>sgN hK3 <| sgC fun K6 hK6=>sv (.agg (ints .u8 (sec))) 8 (Qae 23 _ g4 23 _ _ (Qaa r4_1 e2) rfl kj kj (isz (n:=32) kj (izT hsl))) <| sg 1 kj <| Qau (fun v W'=>(fun v W=>∃ u,v=.tuple #[u,.nilIface]∧OwnN .u8 5 W2.heap.size (kx sec (Qb8 (strB s) [] 32) 32) u W) v W'∧Ext W2 W') 68 #[.agg (ints .u8 (sec)),.string s,.slice none 0 0,.int .i64 32] 10 rfl kj kj ((Qm0 sec [] s (.slice none 0 0) _ tc tq _ (Qaa (Qaa hc e1) e2) (Qaa (Qaa hq e1) e2) hsl hsb (fun x hx=>by cases hx) (nilrd _) 32 dd h dd).mono mo1) fun vv7 W3 hh7=>?_
  obtain ⟨hv7,e3⟩:=hh7
  obtain ⟨uu,rfl,huu⟩:=hv7
  obtain ⟨gu,cu,curu,rfl,-,hru,-,-,-,htu⟩:=QdU huu (by rw [QbR]; decide)
  refine sg 5 kj <| sgN hK6 <| wp_seq_k fun K8 hK8=>sgB kj <| cond_false kj <| wp_skip <| hK8 _ _ <| sgC fun K10 hK10=>sg 1 kj <| sv (pp gu 0) 17 (run_sap 23 _ 32 5 (a:=some ⟨gu,0,none⟩) (len:=(kx sec (Qb8 (strB s) [] 32) 32).length) (cap:=cu) rfl kj kj (by rw [QbR]; exact qR _)) ?_
  refine sv (.agg (ints .u8 (kx sec (Qb8 (strB s) [] 32) 32))) 18 (Qa4 23 _ gu 0 5 _ _ _ (Qaa hru (zbH W3)) rfl kj (Qhb htu) kj (isz (n:=32) kj (izT (QbR _ _ _)))) ?_
  have r5_3:=(Qaa r5_2 e3)
  refine Qag g5 _ (ints .u8 (kx sec (Qb8 (strB s) [] 32) 32)) 23 r5_3 rfl kj (Qaf 23 _ _ g5 23 _ _ r5_3 rfl kj kj (isz (n:=32) kj (izT (QbR _ _ _))) (eqsz (n:=32) (izT (qZ (n:=32))) (izT (QbR _ _ _))) (Qat _ _)) fun W4 p4 r5_4=>sgN hK10 <| wp_ret ?_
  with_reducible repeat first | refine goR1 ?_ | refine goR2 ?_
  exact (show bodyPost _ _ _ .ret _ _ from ret1 (.agg (ints .u8 (kx sec (Qb8 (strB s) [] 32) 32))) rfl (QaJ g5 23 _ r5_4 kj kj (isz (n:=32) kj (izT (QbR _ _ _)))) ⟨congrArg (fun z=>Ending.returned (.agg (ints .u8 z))) (show _=Qb7 sec (strB s) by unfold Qb7; rw [if_pos h]),(zbK p4 (zbL (zbL x1 e2) e3) (qT x1.size l5))⟩)
theorem QlT (sec : List Int) (s:ByteArray) (tc tq:TypeId) (w:World) (hc:w.heap[4]? = some (.cells (ints .u64 QaM) tc)) (hq:w.heap[3]? = some (.cells (ints .u64 Qa5) tq)) (hsl:sec.length=32) (hsb:Qak sec) (h:255<(strB s).length):Calls Tryz.prog 47 #[.agg (ints .u8 sec),.string s] w (Ret w (.agg (ints .u8 (Qb7 sec (strB s))))):=by
  refine enter 19 [(0,.agg (ints .u8 (sec))),(1,.string s)] Tryz.func47 rfl rfl kj rfl <| sgC fun K3 hK3=>Qah (ints .u8 (sec)) 23 2 rfl kj kj fun g4 W1 l4 e1 r4_1=>?_
  have x1:=zbL (zbH w) e1
  have b4:=qT (zbH w).size l4
  refine Qah (ints .u8 (zaj 32 0)) 23 4 rfl kj kj fun g5 W2 l5 e2 r5_2=>sgN hK3 <| sgC fun K6 hK6=>sv (.agg (ints .u8 (sec))) 8 (Qae 23 _ g4 23 _ _ (Qaa r4_1 e2) rfl kj kj (isz (n:=32) kj (izT hsl))) <| sg 1 kj <| Qao (.tuple #[.slice none 0 0,.iface 49 (.int .i64 4)]) 68 #[.agg (ints .u8 (sec)),.string s,.slice none 0 0,.int .i64 32] 10 rfl kj kj ((fun W hc hq=>Qnw sec [] s (.slice none 0 0) _ tc tq W hc hq hsl hsb (fun x hx=>by cases hx) (nilrd W) 32 dd dd h) _ (Qaa (Qaa hc e1) e2) (Qaa (Qaa hq e1) e2)) fun W3 e3=>sg 5 kj <| sgN hK6 <| wp_seq_k fun K7 hK7=>sgB kj ?_
  refine cond_true kj <| sgC fun K9 hK9=>sg 1 kj ?_
  have r5_3:=(Qaa r5_2 e3)
  refine Qag g5 _ (ints .u8 (zaj 32 0)) 23 r5_3 rfl kj (Qaf 23 _ _ g5 23 _ _ r5_3 rfl kj kj (isz (n:=32) kj (izT (qZ (n:=32)))) (eqsz (n:=32) (izT (qZ (n:=32))) (izT (qZ (n:=32)))) (Qat _ _)) fun W4 p4 r5_4=>sgN hK9 <| wp_ret ?_
  with_reducible repeat first | refine goR1 ?_ | refine goR2 ?_
  exact (show bodyPost _ _ _ .ret _ _ from ret1 (.agg (ints .u8 (zaj 32 0))) rfl (QaJ g5 23 _ r5_4 kj kj (isz (n:=32) kj (izT (qZ (n:=32))))) ⟨congrArg (fun z=>Ending.returned (.agg (ints .u8 z))) (show _=Qb7 sec (strB s) by unfold Qb7; rw [if_neg oo]),(zbK p4 (zbL (zbL x1 e2) e3) (qT x1.size l5))⟩)
theorem QhE (sec : List Int) (s:ByteArray) (tc tq:TypeId) (w:World) (hc:w.heap[4]? = some (.cells (ints .u64 QaM) tc)) (hq:w.heap[3]? = some (.cells (ints .u64 Qa5) tq)) (hsl:sec.length=32) (hsb:Qak sec):Calls Tryz.prog 47 #[.agg (ints .u8 sec),.string s] w (Ret w (.agg (ints .u8 (Qb7 sec (strB s))))):=by
  by_cases h:(strB s).length≤255
  · exact QlU sec s tc tq w hc hq hsl hsb h
  · exact QlT sec s tc tq w hc hq hsl hsb oo
end Sha
end
section
namespace Auto
open Go Go.RowKit
open Rely
structure MpW (es : Array MapEntry) (clock : Nat) (m : List (Int × Value)) : Prop where
  ents:es.toList.map (fun e=>(e.key,e.val))=m.map fun p=>(zam .i64 p.1,p.2)
  nod:(m.map Prod.fst).Nodup
  born:(es.toList.map (·.born)).Nodup
  old:∀ e∈es.toList,e.born<clock
def MpAt (g : Nat) (m:List (Int×Value)) (W:World):Prop:=∃ es clock,W.heap[g]? = some (.map es clock)∧MpW es clock m
def mget (m : List (Int×Value)) (k:Int) (z:Value):Value:=((m.find? fun p=>p.1==k).map Prod.snd).getD z
theorem Qno (c : Nat):MpW #[] c []:=⟨rfl,zbv,zbv,fun e h=>by cases h⟩
theorem MpAt.lt {g : Nat} {m:List (Int×Value)} {W:World} (h:MpAt g m W):g<W.heap.size:=by obtain ⟨es,c,h1,-⟩:=h; exact Qaq h1
theorem MpAt.keep {g : Nat} {m:List (Int×Value)} {W W':World} (h:MpAt g m W) (e:W'.heap[g]? = W.heap[g]?):MpAt g m W':=by obtain ⟨es,c,h1,h2⟩:=h; exact ⟨es,c,e.trans h1,h2⟩
theorem MpAt.ne {g k:Nat} {m:List (Int×Value)} {W:World} {cs:Array Value} {T:TypeId} {fr:Nat×Nat} (h:MpAt g m W) (r:W.heap[k]? = some (.cells cs T fr)):k≠g:=fun e=>by
  obtain ⟨es,c,h1,-⟩:=h
  rw [e,h1] at r
  cases r
theorem Qdh (k : Int):∀ (es:List MapEntry) (m:List (Int×Value)) (i:Nat),es.map (fun e=>(e.key,e.val))=m.map (fun p=>(zam .i64 p.1,p.2)) →
    (Instr.findNow (.int .i64) (.int .i64 k) es i=some none∧m.find? (fun p=>p.1==k)=none∧∀ e∈es,e.key≠.int .i64 k)∨∃ j v e,Instr.findNow (.int .i64) (.int .i64 k) es i=some (some (i+j,v))∧m.find? (fun p=>p.1==k)=some (k,v)∧es[j]? = some e∧e.key=.int .i64 k
  | [],[],i,_=>.inl ⟨rfl,rfl,fun e h=>by cases h⟩
  | [],_::_,i,h=>by cases h
  | _::_,[],i,h=>by cases h
  | e::es,p::m,i,h=>by
    simp only [zaU,List.cons.injEq,Prod.mk.injEq] at h
    obtain ⟨⟨h1,h2⟩,h3⟩:=h
    have hs:Instr.sameNow (.int .i64) (.int .i64 k) e.key=some (k==p.1):=by rw [h1]; simp [Instr.sameNow]
    by_cases hk:p.1=k
    · right
      refine ⟨0,p.2,e,?_,?_,rfl,by rw [h1,hk]⟩
      · rw [Instr.findNow,hs,hk,beq_self_eq_true,h2]; rfl
      · rw [List.find?_cons_of_pos (by simp [hk])]; congr 1; exact Prod.ext hk rfl
    · have hs':Instr.sameNow (.int .i64) (.int .i64 k) e.key=some false:=by rw [hs]; congr 1; simp; exact fun q=>hk q.symm
      rcases Qdh k es m (i+1) h3 with ⟨q1,q2,q3⟩ | ⟨j,v,e',q1,q2,q3,q4⟩
      · left
        refine ⟨by rw [Instr.findNow,hs']; exact q1,by rw [zbw (by simp [hk])]; exact q2,fun x hx=>?_⟩
        rcases zbb.1 hx with rfl | hx
        · rw [h1]; exact fun q=>hk (by injection q)
        · exact q3 x hx
      · right
        exact ⟨j+1,v,e',by rw [Instr.findNow,hs']; show Instr.findNow _ _ es (i+1)=_; rw [q1,show i+1+j=i+(j+1) by omega],by rw [zbw (by simp [hk])]; exact q2,by rw [zbx]; exact q3,q4⟩
section
variable {P : Program} {ρ : Operand → Value} {o : Oper} {w : World}
theorem QjC (t : TypeId) (m k:Operand) {kt et:TypeId} {g:Nat} {n:Int} {ms:List (Int×Value)} {z:Value} (ho:o.op=.lookup t m k false) (hm:ρ m=.map (some g)) (hk:ρ k=.int .i64 n)
    (ht:P.underlying t=some (.map kt et)) (hkt:P.underlying kt=some (.int .i64)) (h:MpAt g ms w) (hz:(zeroValue et).run P w=.ok z w):(execOp ρ o).run P w=.ok (.value (mget ms n z)) w:=by
  obtain ⟨es,c,hg,hM⟩:=h
  have hl:(Instr.lookup t (.map (some g)) (.int .i64 n) false).run P w=.ok (mget ms n z) w:=by
    unfold Instr.lookup
    rw [za0,run_underlying ht]
    show ((getObj g >>= _) >>= _:Sem Value).run P w=_
    rw [za0,za0,MapKept.run_getObj_map hg]
    show ((Instr.checkKey es.isEmpty 10000 kt (.int .i64 n)) >>= _:Sem Value).run P w=_
    rw [za0,MapKept.run_checkKey hkt (by simp [MapKept.IsKey])]
    rcases Qdh n es.toList ms 0 hM.ents with ⟨q1,q2,-⟩ | ⟨j,v,e,q1,q2,-,-⟩
    · have hf:=MapKept.run_findKey (P:=P) (w:=w) hkt q1
      unfold mget
      rw [q2]
      simp [za0,hf,zby,hz]
    · have hf:=MapKept.run_findKey (P:=P) (w:=w) hkt q1
      unfold mget
      rw [q2]
      simp [za0,hf,zby]
  unfold execOp
  simp only [ho,hm,hk,za0,hl,za1,za2]
theorem QlA {es : Array MapEntry} {c:Nat} {m:List (Int×Value)} (h:MpW es c m) {n:Int} {v:Value} (hn:n∉m.map Prod.fst):MpW (es.push { key:=.int .i64 n,val:=v,born:=c }) (c+1) (m++[(n,v)]):=by
  refine ⟨?_,?_,?_,?_⟩
  · rw [zbz,zaO,h.ents,zaO]; rfl
  · rw [zaO]
    refine zb0.2 ⟨h.nod,(zb1.2 ⟨zbc,zbv⟩),fun a ha b hb=>?_⟩
    rw [zb2,zbo] at hb
    subst hb
    exact fun q=>hn (q▸ha)
  · rw [zbz,zaO]
    refine zb0.2 ⟨h.born,(zb1.2 ⟨zbc,zbv⟩),fun a ha b hb=>?_⟩
    obtain ⟨e,he,rfl⟩:=zab.1 ha
    rw [zb2,zbo] at hb
    subst hb
    exact zbh (h.old e he)
  · intro e he
    rw [zbz,zaK,zbo] at he
    rcases he with he | rfl
    · exact Nat.lt_succ_of_lt (h.old e he)
    · exact Nat.lt_succ_self _
theorem Qni {m : List (Int×Value)} {n:Int} (h:n∉m.map Prod.fst):m.find? (fun p=>p.1==n)=none:=by
  rw [List.find?_eq_none]
  intro p hp q
  exact h (zab.2 ⟨p,hp,by simpa using q⟩)
theorem QhT (t : TypeId) (m k x:Operand) {kt et:TypeId} {g:Nat} {n:Int} {ms:List (Int×Value)} {v:Value} (ho:o.op=.mapUpdate t m k x) (hm:ρ m=.map (some g)) (hk:ρ k=.int .i64 n) (hx:ρ x=v)
    (ht:P.underlying t=some (.map kt et)) (hkt:P.underlying kt=some (.int .i64)) (h:MpAt g ms w) (hn:n∉ms.map Prod.fst):∃ W',(execOp ρ o).run P w=.ok .skip W'∧Puts w g W'∧MpAt g (ms++[(n,v)]) W':=by
  obtain ⟨es,c,hg,hM⟩:=h
  rcases Qdh n es.toList ms 0 hM.ents with ⟨q1,-,-⟩ | ⟨j,u,e,q1,q2,-,-⟩
  · have hf:=MapKept.run_findKey (P:=P) (w:=w) hkt q1
    have hi:(Instr.mapUpdate t (.map (some g)) (.int .i64 n) v).run P w=.ok () { w with heap:=w.heap.setIfInBounds g (.map (es.push { key:=.int .i64 n,val:=v,born:=c }) (c+1)) }:=by
      unfold Instr.mapUpdate
      rw [za0,run_underlying ht]
      show ((getObj g) >>= _:Sem Unit).run P w=_
      rw [za0,MapKept.run_getObj_map hg]
      show ((Instr.checkKey false 10000 kt (.int .i64 n)) >>= _:Sem Unit).run P w=_
      rw [za0,MapKept.run_checkKey hkt (by simp [MapKept.IsKey])]
      show ((Instr.findKey kt (.int .i64 n) es.toList) >>= _:Sem Unit).run P w=_
      rw [za0,hf]
      exact MapKept.run_setObj_map _ hg
    have hh:=MapKept.heap_set (o':=.map (es.push { key:=.int .i64 n,val:=v,born:=c }) (c+1)) hg
    refine ⟨{ w with heap:=w.heap.setIfInBounds g (.map (es.push { key:=.int .i64 n,val:=v,born:=c }) (c+1)) },?_,⟨rfl,rfl,rfl,by simp,fun i hi=>hh.2 i hi⟩,_,_,hh.1,QlA hM hn⟩
    unfold execOp
    rw [ho]
    show ((Instr.mapUpdate t (ρ m) (ρ k) (ρ x)) >>= _).run P w=_
    rw [hm,hk,hx,za0,hi]
    rfl
  · rw [Qni hn] at q2; cases q2
theorem QeL {α β:Type} (f:α→β) (p:β→Bool):∀ l:List α,(l.map f).filter p=(l.filter fun x=>p (f x)).map f
  | []=>rfl
  | x::l=>by
    rw [zaU,zb3,zb3,QeL f p l]
    split <;> rfl
theorem QfK {es : Array MapEntry} {c:Nat} {m:List (Int×Value)} (h:MpW es c m) (q:Int→Bool) (es':Array MapEntry) (he:es'.toList=es.toList.filter fun e=>match e.key with | .int _ n=>q n | _=>true):MpW es' c (m.filter fun p=>q p.1):=by
  refine ⟨?_,?_,?_,?_⟩
  · rw [he]
    have e1:=QeL (fun e:MapEntry=>(e.key,e.val)) (fun x=>match x.1 with | .int _ n=>q n | _=>true) es.toList
    have e2:=QeL (fun p:Int×Value=>(zam .i64 p.1,p.2)) (fun x=>match x.1 with | .int _ n=>q n | _=>true) m
    rw [←e1,h.ents,e2]
  · exact h.nod.sublist ((zb4).map _)
  · rw [he]; exact h.born.sublist ((zb4).map _)
  · intro e hm; rw [he] at hm; exact h.old e (zb5.1 hm).1
def nk (n : Int) (e:MapEntry):Bool:=match e.key with | .int _ x=>x != n | _=>true
theorem QfJ {n x:Int} {e:MapEntry} (h:e.key=.int .i64 x):nk n e=(x != n):=by unfold nk; rw [h]
theorem Qdv {n : Int}:∀ (l:List MapEntry) (j:Nat) (e:MapEntry),(l.map (·.key)).Nodup→(∀ x∈l,∃ a,x.key=zam .i64 a)→l[j]? = some e→e.key=.int .i64 n→l.eraseIdx j=l.filter (nk n)
  | [],_,_,_,_,h,_=>by simp at h
  | x::l,0,e,hn,hi,h,hk=>by
    simp only [List.getElem?_cons_zero,Option.some.injEq] at h
    subst h
    rw [List.eraseIdx_cons_zero,List.filter_cons_of_neg (by rw [QfJ hk]; simp)]
    rw [zaU,zb1] at hn
    refine (zb6.2 fun y hy=>?_).symm
    obtain ⟨a,ha⟩:=hi y (zb7 _ hy)
    rw [QfJ ha]
    simp only [bne_iff_ne,ne_eq]
    exact fun q=>hn.1 (by rw [hk,←q,←ha]; exact zb8 (f:=fun e:MapEntry=>e.key) hy)
  | x::l,j+1,e,hn,hi,h,hk=>by
    rw [zbx] at h
    rw [zaU,zb1] at hn
    obtain ⟨a,ha⟩:=hi x (zb9 ..)
    have hx:nk n x=true:=by
      rw [QfJ ha]
      simp only [bne_iff_ne,ne_eq]
      exact fun q=>hn.1 (by rw [ha,q,←hk]; exact zb8 (f:=fun e:MapEntry=>e.key) (List.mem_of_getElem? h))
    rw [List.eraseIdx_cons_succ,List.filter_cons_of_pos hx,Qdv l j e hn.2 (fun y hy=>hi y (zb7 _ hy)) h hk]
theorem Qet {es : Array MapEntry} {c:Nat} {m:List (Int×Value)} (h:MpW es c m):(es.toList.map (·.key)).Nodup:=by
  have e:es.toList.map (·.key)=(m.map Prod.fst).map (zam .i64):=by
    have:=congrArg (zbn Prod.fst) h.ents
    rw [zbt,zbt] at this
    rw [zbt]
    exact this
  rw [e]
  exact List.Pairwise.map _ (fun a b q r=>q (by injection r)) h.nod
theorem Qfo {es : Array MapEntry} {c:Nat} {m:List (Int×Value)} (h:MpW es c m) {e:MapEntry} (he:e∈es.toList):∃ n,e.key=.int .i64 n:=by
  have:=zb8 (f:=fun e:MapEntry=>(e.key,e.val)) he
  rw [h.ents,zab] at this
  obtain ⟨p,-,hp⟩:=this
  exact ⟨p.1,(congrArg Prod.fst hp).symm⟩
theorem QhF {kt et:TypeId} {es:Array MapEntry} {c:Nat} {m:List (Int×Value)} (h:MpW es c m) (hkt:P.underlying kt=some (.int .i64)) {g:Nat} (hg:w.heap[g]? = some (.map es c)) (n:Int) {t:TypeId} {ty:TypeId} (ht:P.underlying t=some (.map kt et)) :
    ∃ es',es'.toList=es.toList.filter (nk n)∧(Builtin.delete_ #[t,kt] ty #[.map (some g),.int .i64 n]).run P w=.ok (.tuple #[]) { w with heap:=w.heap.setIfInBounds g (.map es' c) }:=by
  rcases Qdh n es.toList m 0 h.ents with ⟨q1,-,q3⟩ | ⟨j,v,e,q1,q2,q3,q4⟩
  · refine ⟨es,(zb6.2 fun x hx=>by
      obtain ⟨a,ha⟩:=Qfo h hx
      rw [QfJ ha]; simp only [bne_iff_ne,ne_eq]; exact fun q=>q3 x hx (by rw [ha,q])).symm,?_⟩
    have hf:=MapKept.run_findKey (P:=P) (w:=w) hkt q1
    simp [Builtin.delete_,run_underlying ht,MapKept.run_getObj_map hg,MapKept.run_checkKey hkt (show MapKept.IsKey (.int .i64) (.int .i64 n) by simp [MapKept.IsKey]),hf,MapKept.run_setObj_map _ hg,zby]
  · refine ⟨es.eraseIdxIfInBounds j,?_,?_⟩
    · have hj:j<es.size:=by have:=(zbA.1 q3).1; simpa using this
      rw [zbB,dif_pos hj,zbC]
      exact Qdv _ j e (Qet h) (fun x hx=>Qfo h hx) q3 q4
    · have hf:=MapKept.run_findKey (P:=P) (w:=w) hkt q1
      rw [za3] at hf
      simp [Builtin.delete_,run_underlying ht,MapKept.run_getObj_map hg,MapKept.run_checkKey hkt (show MapKept.IsKey (.int .i64) (.int .i64 n) by simp [MapKept.IsKey]),hf,MapKept.run_setObj_map _ hg,zby]
theorem QjD {w' : World} (m k:Operand) (t kt:TypeId) {g:Nat} {n:Int} (ho:o.op=.call { callee:=.builtin .delete,args:=#[m,k],argTypes:=#[t,kt] }) (hm:ρ m=.map (some g)) (hk:ρ k=.int .i64 n)
    (h:(Builtin.delete_ #[t,kt] o.type #[.map (some g),.int .i64 n]).run P w=.ok (.tuple #[]) w'):(execOp ρ o).run P w=.ok (.value (.tuple #[])) w':=by
  unfold execOp
  simp only [ho,resolve,invoke,builtin,za0,za2,za1,zaT,zaU,zaV,hm,hk,h]
theorem Qlm (m k:Operand) (t:TypeId) {kt et:TypeId} {g:Nat} {n:Int} {ms:List (Int×Value)} (ho:o.op=.call { callee:=.builtin .delete,args:=#[m,k],argTypes:=#[t,kt] }) (hm:ρ m=.map (some g)) (hk:ρ k=.int .i64 n)
    (ht:P.underlying t=some (.map kt et)) (hkt:P.underlying kt=some (.int .i64)) (h:MpAt g ms w):∃ W',(execOp ρ o).run P w=.ok (.value (.tuple #[])) W'∧Puts w g W'∧MpAt g (ms.filter fun p=>p.1 != n) W':=by
  obtain ⟨es,c,hg,hM⟩:=h
  obtain ⟨es',he,hr⟩:=QhF (P:=P) (w:=w) hM hkt hg n (ty:=o.type) ht
  have hh:=MapKept.heap_set (o':=.map es' c) hg
  exact ⟨_,QjD m k t kt ho hm hk hr,⟨rfl,rfl,rfl,by simp,fun i hi=>hh.2 i hi⟩,es',c,hh.1,QfK hM (fun x=>x != n) es' he⟩
end
def km (lim : Int) (e:MapEntry):Bool:=match e.key with | .int _ x=>decide (lim≤x) | _=>true
theorem Qkp {lim x:Int} {e:MapEntry} (h:e.key=.int .i64 x):km lim e=decide (lim≤x):=by unfold km; rw [h]
def rkeep (lim : Int) (sn:Array Nat) (e:MapEntry):Bool:=km lim e || !sn.contains e.born
def Qdp (g r:Nat) (lim:Int) (es0:Array MapEntry) (c:Nat) (sn:Array Nat) (W:World):Prop:=∃ es:Array MapEntry,es.toList=es0.toList.filter (rkeep lim sn)∧W.heap[g]? = some (.map es c)∧W.heap[r]? = some (.mapIter (some g) c sn c)
def Qd0 (g r:Nat) (lim:Int) (es0:Array MapEntry) (c:Nat) (sn:Array Nat) (e:MapEntry) (W:World):Prop:=∃ es:Array MapEntry,es.toList=es0.toList.filter (rkeep lim sn)∧W.heap[g]? = some (.map es c)∧W.heap[r]? = some (.mapIter (some g) c (sn.push e.born) c)∧e∈es.toList∧sn.contains e.born=false
def rmu (es0 : Array MapEntry) (sn:Array Nat):Nat:=(es0.toList.filter fun e=>!sn.contains e.born).length
theorem QdY {α β:Type} (f:α→β):∀ l:List α,(l.map f).Nodup→∀ a∈l,∀ b∈l,f a=f b→a=b
  | [],_,a,ha,_,_,_=>by cases ha
  | x::l,h,a,ha,b,hb,e=>by
    rw [zaU,zb1] at h
    rcases zbb.1 ha with ha' | ha' <;> rcases zbb.1 hb with hb' | hb'
    · rw [ha',hb']
    · exact absurd (by rw [←ha',e]; exact zb8 (f:=f) hb') h.1
    · exact absurd (by rw [←hb',←e]; exact zb8 (f:=f) ha') h.1
    · exact QdY f l h.2 a ha' b hb' e
theorem Qfs {α : Type} (p q:α→Bool):∀ l:List α,(∀ x∈l,q x=true→p x=true)→∀ a∈l,p a=true→q a=false→(l.filter q).length<(l.filter p).length
  | [],_,a,ha,_,_=>by cases ha
  | x::l,h,a,ha,hp,hq=>by
    have hl:(l.filter q).length≤(l.filter p).length:=by
      have:∀ l:List α,(∀ x∈l,q x=true→p x=true)→(l.filter q).length≤(l.filter p).length:=by
        intro l
        induction l with
        | nil=>exact fun _=>qR _
        | cons y l ih =>
          intro h
          have ih:=ih fun x hx=>h x (zb7 _ hx)
          rw [zb3,zb3]
          cases hqy:q y with
          | true=>rw [h y (zb9 ..) hqy]; simp only [if_true,zbr]; omega
          | false =>
            simp only [Bool.false_eq_true,if_false]
            cases p y
            · simpa using ih
            · simp only [if_true,zbr]; omega
      exact this l fun x hx=>h x (zb7 _ hx)
    rw [zb3,zb3]
    rcases zbb.1 ha with ha | ha
    · subst ha
      rw [hp,hq]
      simp only [if_true,Bool.false_eq_true,if_false,zbr]; omega
    · have ih:=Qfs p q l (fun x hx=>h x (zb7 _ hx)) a ha hp hq
      cases hqx:q x with
      | true=>rw [h x (zb9 ..) hqx]; simp only [if_true,zbr]; omega
      | false =>
        simp only [Bool.false_eq_true,if_false]
        cases p x
        · simpa using ih
        · simp only [if_true,zbr]; omega
theorem QeI (sn : Array Nat) (b x:Nat):(sn.push b).contains x=(sn.contains x || x==b):=by
  rw [←zbD,zbz,←zbD]
  rw [Bool.eq_iff_iff]
  simp [List.contains_eq_mem,zaK]
theorem Qd0.mu {g r:Nat} {lim:Int} {es0:Array MapEntry} {c:Nat} {sn:Array Nat} {e:MapEntry} {W:World} (h:Qd0 g r lim es0 c sn e W):rmu es0 (sn.push e.born)<rmu es0 sn:=by
  obtain ⟨es,he,-,-,hm,hs⟩:=h
  unfold rmu
  rw [he] at hm
  refine Qfs _ _ _ (fun x _ hx=>?_) e (zb5.1 hm).1 (by rw [hs]; rfl) (by rw [QeI,beq_self_eq_true,Bool.or_true]; rfl)
  rw [QeI] at hx
  revert hx
  cases sn.contains x.born <;> simp
section
variable {es0 : Array MapEntry} {c : Nat} {m0 : List (Int × Value)} {g r : Nat} {lim : Int} {sn : Array Nat} {W : World}
theorem Qdp.start (hM : MpW es0 c m0) (hg:W.heap[g]? = some (.map es0 c)) (hr:W.heap[r]? = some (.mapIter (some g) c #[] c)):Qdp g r lim es0 c #[] W :=
  ⟨es0,(zb6.2 fun e _=>by unfold rkeep; simp).symm,hg,hr⟩
theorem Qdp.done (hM : MpW es0 c m0) (h:Qdp g r lim es0 c sn W) (h0:∀ es,W.heap[g]? = some (.map es c)→(leftOf es sn).size=0):MpAt g (m0.filter fun p=>decide (lim≤p.1)) W:=by
  obtain ⟨es,he,hg,hr⟩:=h
  have hl:=h0 es hg
  refine ⟨es,c,hg,QfK hM (fun x=>decide (lim≤x)) es ?_⟩
  show _=es0.toList.filter (km lim)
  rw [he]
  refine zbE fun e hm=>?_
  unfold rkeep
  cases hk:km lim e with
  | true=>rfl
  | false =>
    rw [Bool.false_or]
    cases hs:sn.contains e.born with
    | true=>rfl
    | false =>
      exfalso
      have h1:e∈leftOf es sn:=by
        unfold leftOf
        rw [zbF]
        refine ⟨?_,by rw [hs]; rfl⟩
        rw [←zbG,he,zb5]
        exact ⟨hm,by unfold rkeep; rw [hs]; simp⟩
      rw [Array.eq_empty_of_size_eq_zero hl] at h1
      cases h1 with | mk h=>cases h
theorem Qd0.stay (hM : MpW es0 c m0) {e:MapEntry} (h:Qd0 g r lim es0 c sn e W) (hk:km lim e=true):Qdp g r lim es0 c (sn.push e.born) W:=by
  obtain ⟨es,he,hg,hr,hm,hs⟩:=h
  refine ⟨es,he.trans (zbE fun f hf=>?_),hg,hr⟩
  unfold rkeep
  rw [QeI]
  by_cases hb:f.born=e.born
  · have hm':=hm
    rw [he] at hm'
    rw [QdY (·.born) _ hM.born f hf e (zb5.1 hm').1 hb,hk]
    rfl
  · rw [show (f.born==e.born)=false from by simpa using hb,Bool.or_false]
theorem Qd0.drop (hM : MpW es0 c m0) {e:MapEntry} {x:Int} (h:Qd0 g r lim es0 c sn e W) (hx:e.key=.int .i64 x) (hk:x<lim) {P:Program} {t kt et ty:TypeId} (ht:P.underlying t=some (.map kt et)) (hkt:P.underlying kt=some (.int .i64)) :
    ∃ W',(Builtin.delete_ #[t,kt] ty #[.map (some g),.int .i64 x]).run P W=.ok (.tuple #[]) W'∧Puts W g W'∧Qdp g r lim es0 c (sn.push e.born) W':=by
  obtain ⟨es,he,hg,hr,hm,hs⟩:=h
  have hME:MpW es c (m0.filter fun p=>true)∨True:=.inr trivial
  have hnb:(es.toList.map (·.born)).Nodup:=by rw [he]; exact hM.born.sublist ((zb4).map _)
  have hnk:(es.toList.map (·.key)).Nodup:=by rw [he]; exact (Qet hM).sublist ((zb4).map _)
  have hik:∀ y∈es.toList,∃ a,y.key=zam .i64 a:=fun y hy=>by rw [he] at hy; exact Qfo hM (zb5.1 hy).1
  have hm':=hm
  rw [he] at hm'
  have he0:=(zb5.1 hm').1
  obtain ⟨j,hj⟩:=List.mem_iff_getElem?.1 hm
  have hgr:g≠r:=fun q=>by rw [q,hr] at hg; cases hg
  have hfn:∀ (l:List MapEntry) (i:Nat),(∀ y∈l,∃ a,y.key=zam .i64 a)→(∃ y∈l,y.key=.int .i64 x)→∃ j v y,Instr.findNow (.int .i64) (.int .i64 x) l i=some (some (i+j,v))∧l[j]? = some y∧y.key=.int .i64 x:=by
    intro l
    induction l with
    | nil=>intro i _ h; obtain ⟨y,hy,-⟩:=h; cases hy
    | cons z l ih =>
      intro i hi hy
      obtain ⟨a,ha⟩:=hi z (zb9 ..)
      have hsn:Instr.sameNow (.int .i64) (.int .i64 x) z.key=some (x==a):=by rw [ha]; simp [Instr.sameNow]
      by_cases hxa:a=x
      · exact ⟨0,z.val,z,by rw [Instr.findNow,hsn,hxa,beq_self_eq_true]; rfl,rfl,by rw [ha,hxa]⟩
      · have hsn':Instr.sameNow (.int .i64) (.int .i64 x) z.key=some false:=by rw [hsn]; congr 1; simp; exact fun q=>hxa q.symm
        obtain ⟨y,hy1,hy2⟩:=hy
        have hyl:y∈l:=by
          rcases zbb.1 hy1 with rfl | hy1
          · rw [ha] at hy2; exact absurd (by injection hy2) hxa
          · exact hy1
        obtain ⟨j,v,y',q1,q2,q3⟩:=ih (i+1) (fun y hy=>hi y (zb7 _ hy)) ⟨y,hyl,hy2⟩
        exact ⟨j+1,v,y',by rw [Instr.findNow,hsn']; show Instr.findNow _ _ l (i+1)=_; rw [q1,show i+1+j=i+(j+1) by omega],by rw [zbx]; exact q2,q3⟩
  obtain ⟨j2,v,y,q1,q2,q3⟩:=hfn es.toList 0 hik ⟨e,hm,hx⟩
  have hf:=MapKept.run_findKey (P:=P) (w:=W) hkt q1
  rw [za3] at hf
  have hj2:j2<es.size:=by have:=(zbA.1 q2).1; simpa using this
  have hE:(es.eraseIdxIfInBounds j2).toList=es.toList.filter (nk x):=by
    rw [zbB,dif_pos hj2,zbC]
    exact Qdv _ j2 y hnk hik q2 q3
  have hh:=MapKept.heap_set (o':=.map (es.eraseIdxIfInBounds j2) c) hg
  refine ⟨{ W with heap:=W.heap.setIfInBounds g (.map (es.eraseIdxIfInBounds j2) c) },?_,⟨rfl,rfl,rfl,by simp,fun i hi=>hh.2 i hi⟩,es.eraseIdxIfInBounds j2,?_,hh.1,(hh.2 r (fun q=>hgr q.symm)).trans hr⟩
  · simp [Builtin.delete_,run_underlying ht,MapKept.run_getObj_map hg,MapKept.run_checkKey hkt (show MapKept.IsKey (.int .i64) (.int .i64 x) by simp [MapKept.IsKey]),hf,MapKept.run_setObj_map _ hg,zby]
  · rw [hE,he,List.filter_filter]
    refine zbE fun f hfm=>?_
    unfold rkeep
    rw [QeI]
    by_cases hb:f.born=e.born
    · rw [QdY (·.born) _ hM.born f hfm e he0 hb,QfJ hx,Qkp hx,decide_eq_false oo]
      simp
    · have hne:f.key≠e.key:=fun q=>hb (congrArg MapEntry.born (QdY (·.key) _ (Qet hM) f hfm e he0 q))
      obtain ⟨a,ha⟩:=Qfo hM hfm
      have hnx:nk x f=true:=by rw [QfJ ha]; simp only [bne_iff_ne,ne_eq]; exact fun q=>hne (by rw [ha,hx,q])
      rw [hnx,show (f.born==e.born)=false from by simpa using hb,Bool.or_false,Bool.true_and]
theorem Qdp.next (hM : MpW es0 c m0) (h:Qdp g r lim es0 c sn W) {P:Program} (ty:TypeId) :
    ((Instr.next (pp r 0) false ty).run P W=.ok (.tuple #[.bool false]) W∧MpAt g (m0.filter fun p=>decide (lim≤p.1)) W) ∨
    ∃ e x W1,e.key=.int .i64 x∧(Instr.next (pp r 0) false ty).run P W=.ok (.tuple #[.bool true,.int .i64 x,e.val]) W1∧Puts W r W1∧Qd0 g r lim es0 c sn e W1∧(Instr.entry (pp r 0)).run P W1=.ok (.tuple #[.int .i64 x,e.val]) W1:=by
  have h':=h
  obtain ⟨es,he,hg,hr⟩:=h
  have hgr:g≠r:=fun q=>by rw [q,hr] at hg; cases hg
  have hsub:∀ y∈es.toList,y∈es0.toList:=fun y hy=>by rw [he] at hy; exact (zb5.1 hy).1
  rcases run_next_at (P:=P) W ty r g c c sn es c hr hg (fun y hy=>hM.old y (hsub y hy)) (qR _) with ⟨h0,hrun⟩ | ⟨e,hm,w1,hw1,hrun⟩
  · left
    refine ⟨hrun,h'.done hM fun es2 hg2=>?_⟩
    rw [hg] at hg2
    injection hg2 with q
    injection q with q1 _
    rw [←q1]; exact h0
  · right
    unfold leftOf at hm
    rw [zbG,zbF] at hm
    obtain ⟨hm1,hs⟩:=hm
    have hm2:e∈es.toList:=by rw [zbG]; exact hm1
    obtain ⟨x,hx⟩:=Qfo hM (hsub e hm2)
    have hh:w1.heap=W.heap∧w1.os=W.os∧w1.tape=W.tape∧w1.output=W.output:=by
      rcases hw1 with rfl | rfl
      · exact ⟨rfl,rfl,rfl,rfl⟩
      · exact ⟨rfl,(Qan W).os,(Qan W).tape,(Qan W).output⟩
    have hP:Puts W r (ChangeMaps.setBlock w1 r (.mapIter (some g) c (sn.push e.born) c)):=⟨hh.2.1,hh.2.2.1,hh.2.2.2,by simp [ChangeMaps.setBlock,hh.1],fun i hi=>by simp only [ChangeMaps.setBlock,hh.1]; exact Array.getElem?_setIfInBounds_ne (fun e=>hi e.symm)⟩
    have hr1:(ChangeMaps.setBlock w1 r (.mapIter (some g) c (sn.push e.born) c)).heap[r]? = some (.mapIter (some g) c (sn.push e.born) c):=by simp only [ChangeMaps.setBlock,hh.1]; exact Array.getElem?_setIfInBounds_self_of_lt (Qaq hr)
    have hg1:=(hP.2.2.2.2 g hgr).trans hg
    refine ⟨e,x,_,hx,by rw [hrun,hx],hP,⟨es,he,hg1,hr1,hm2,by simpa using hs⟩,?_⟩
    rw [←hx]
    exact run_entry_at _ r g c sn es c e hr1 hg1 hm2 (by rw [he]; exact hM.born.sublist ((zb4).map _))
end
end Auto
end
end Go.Proofs.YtbonglpnkoegoaaGreatDoor
