/- Texts of this claim, joined (M5). -/
import Derived.Test.YtbonglpnkoegoaaGreatDoorZM4
import Derived.Lib.SmallJoins
import Derived.Lib.LaidTab

set_option linter.unusedVariables false
set_option linter.unusedSimpArgs false
set_option maxHeartbeats 4000000
open List renaming take_of_length_le → zaa, replicate → zab, length_nil → zac, replicate_zero → zad, append_nil → zae, length_append → zah, length_cons → zai, replicate_succ' → zaj, append_assoc → zak, length_take → zan, length_eq_zero_iff → zaq, take_take → zar, mem_singleton → zat, ext_getElem? → zau, getElem?_take → zav, getElem?_map → zax, getElem?_eq_getElem → zay, getElem?_eq_none → zaz, length_drop → za0, length_map → za1, getElem?_append_left → za4, getElem?_append_right → za5, getD_eq_getElem?_getD → za8, nil_append → za9, cons_append → zaA, take_succ_cons → zaB, take_zero → zaC, drop_succ_cons → zaD, drop_zero → zaE, range → zaH, range_succ → zaI, map_append → zaJ, mem_cons → zaL, not_mem_nil → zaM, mem_append → zaO, mem_map → zaP, all_eq_true → zaR, mem_range → zaT, length_set → zaU, take_add → zaY, mem_append_left → zaZ
open Nat renaming zero_le → zaf, lt_of_lt_of_eq → zal, lt_or_ge → za3, pow_le_pow_right → zaK, le_of_ble_eq_true → zaQ
open Go.Value renaming bool → zag, int → zam, slice → zap
open Go.IntKind renaming i64 → zao, u8 → zas
open Array renaming getElem?_toList → zaw, length_toList → za2, toList_append → zaN, ext' → zaS
open Int renaming tdiv → za6, tmod → za7, natCast_nonneg → zaV, ofNat_lt → zaW, lt_or_le → zaX
open Go.Code renaming wp → zaF, rounds → zaG
open Option renaming bind_some → zba, map_some → zbb
namespace Go.Proofs.YtbonglpnkoegoaaGreatDoor
open Rely.Ext renaming refl → zbc, trans → zbd
open Auto.Puts renaming row → zbe, ext → zbf
open Auto.Ext renaming tr → zbg, low → zbi
open Auto.OwnN renaming rd → zbh
open Auto.Qai renaming step → zbj
section
namespace Sha
open Go Go.RowKit
open Rely Auto Own
section
variable {ds : List Deferred} {P : Program} {ops : Array Oper} {Q : Exit → Act → World → Prop} {rest : List Oper} {o : Oper} {N : Nat} {L : Env} {W : World}
theorem Qcb {k : IntKind} {T:TypeId} (b:Nat) (s x:Operand) (t:TypeId) (ho:o.op=.call { callee:=.builtin .append,args:=#[s,x],argTypes:=#[t,t] })
    (ht:P.underlying t=some (.slice T)) (hi:(P.info? T).map (fun i=>(i.zero,i.size,i.bytes))=some (some (.int k 0),1,b)) (hb8:b≤8) (d:Nat) (hd:o.dst=some d) (hg:Qbp ops o N L=some true) {B:Nat} {v y:Value} {xs ys:List Int} {V:World}
    (hs:Rely.look (envN N L) s=v) (hx:Rely.look (envN N L) x=y)
    (h:OwnN k T V.heap.size xs v W) (hy:RdK k B ys y W) {k2:IntKind} {T2:TypeId} {b2:Nat} {zs:List Int} {z:Value} (h2:OwnN k2 T2 b2 zs z W) (hdz:∀ g,z.ownBlock=some g→v.ownBlock≠some g) (hn:xs.length+ys.length≤1000000000) (hV:Ext V W)
    (kk:∀ (u:Value) (W':World),OwnN k T V.heap.size (xs++ys) u W'→Ext V W'→Below V.heap.size W W'→(OwnN k2 T2 b2 zs z W'∧∀ g,z.ownBlock=some g→u.ownBlock≠some g)→WL P ops Q rest (Qav ds N ((d,u)::L)) W'):WL P ops Q (o::rest) (Qav ds N L) W:=by
  obtain ⟨v',W',h1,hh2,h3,h4⟩:=Qdk (ρ:=Rely.look (envN N L)) (o:=o) (W:=W) s x t ho ht hi hb8 hs hx h hy hn hV.size
  refine Qbs _ _ d hd hg h1 (kk v' W' hh2 (Qft hV h h3) ⟨h3.os,h3.tape,h3.output,h3.size,fun i hi=>h3.block i (qL hi hV.size) (fun q=>by have:=h.ge q.symm; omega)⟩ ⟨h2.keep fun g hg=>h3.block g (h2.lt hg) (fun q=>hdz g hg q.symm),fun g hg=>?_⟩)
  rcases h4 with h4 | h4
  · rw [h4]; exact hdz g hg
  · rw [h4]; intro e
    have:=Option.some.inj e
    have:=h2.lt hg
    omega
end
theorem Qiq (n i:Nat) (hn:n≤64):decide (((n+i:Nat):Int)<64)=decide (i<64-n):=decide_eq_decide.2 oo
theorem Qkr {key : List Int} (h:64<key.length):dig key=keyL key:=by rw [keyL,if_pos h]
theorem Qjc {key : List Int} (h:¬ 64<key.length):key=keyL key:=by rw [keyL,if_neg h]
theorem QdS (c : Int) (key:List Int) {i:Nat} (h:i<64):(padX c key).take (i+1)=(padX c key).take i++[nth (padX c key) i]:=by
  have hl:i<(padX c key).length:=by rw [QaC]; exact h
  rw [List.take_succ_eq_append_getElem hl]
  simp [nth,hl]
theorem QgM (c : Int) (key:List Int):(padX c key).take 64=padX c key:=zaa (qE (QaC c key))
set_option maxRecDepth 20000 in
theorem Qps (key text:List Int) (v1 v2:Value) (B B2:Nat) (w:World) (hkl:key.length≤800000000) (htl:text.length≤800000000) (hkb:Qak key) (htb:Qak text) (hk:RdK .u8 B key v1 w) (ht:RdK .u8 B2 text v2 w):Calls Tryz.prog 85 #[v1,v2] w (Ret w (.agg (ints .u8 (hmac key text)))):=by
 obtain ⟨a_key,c_key,rfl,-⟩:=id hk
 obtain ⟨a_text,c_text,rfl,-⟩:=id ht
 refine enter 56 [(0,.slice a_key key.length c_key),(1,.slice a_text text.length c_text)] Tryz.func85 rfl rfl kj rfl <| sgC fun K1 hK1=>Qah (ints .u8 (zab 32 0)) 23 4 rfl kj kj fun g2 W1 l2 e1 r2_1=>?_
 have x1:=zbg (zbc w) e1
 have b2:=qT (zbc w).size l2
 refine sgN hK1 <| sgC fun K3 hK3=>QaA (ints .u8 ([])) 5 0 11 rfl kj kj fun g4 W2 l4 e2 r4_2=>?_
 have x2:=zbg x1 e2
 have b4:=qT x1.size l4
 refine sg 1 kj <| QaH (k:=.u8) (T:=5) (xs:=[]) (ys:=key) (V:=W1) 1 (.tmp 11) (.tmp 12) 41 rfl kj kj dd 13 rfl kj kj kj (Qb3 (xs:=[]) rfl l4 r4_2 dd) (RdK.ext hk x2) (by first | (rw [QaY]; decide) | (simp only [zac]; omega)) (zbd (zbc W1) e2) fun z1 W3 f5 y3 l3=>?_
 have x3:=zbi x2 l3 x1.size
 have hu6:OwnN .u8 5 W1.heap.size (key) z1 W3:=by have h:=f5; simpa using h
 obtain ⟨a5_7,c5_7,rfl,-⟩:=id (zbh hu6)
 refine sg 1 kj <| sgN hK3 <| wp_seq_k fun K8 hK8=>sgB kj <| Qay (t:=decide ((((key).length:Nat):Int)>64)) kj (fun c10=>?_) (fun c10=>?_)
 ·skip
  have hlong:64<key.length:=by have:=of_decide_eq_true c10; omega
  refine sgC fun K11 hK11=>sg 1 kj <| Qao (.agg (ints .u8 (dig (key)))) 92 #[.slice a5_7 ((key).length) c5_7] 18 rfl kj kj (Qfc (key) _ _ _ oo hkb (zbh hu6)) fun W4 e4=>?_
  have x4:=zbg x3 e4
  refine Qah (ints .u8 (zab 32 0)) 23 6 rfl kj kj fun g12 W5 l12 e5 r12_5=>?_
  have x5:=zbg x4 e5
  refine Qag g12 _ (ints .u8 (dig (key))) 23 r12_5 rfl kj (Qaf 23 _ _ g12 23 _ _ r12_5 rfl kj kj (isz (n:=32) kj (izT (QaY _))) (eqsz (n:=32) (izT (qZ (n:=32))) (izT (QaY _))) (Qat _ _)) fun W6 p6 r12_6=>?_
  have x6:=zbf p6 x5 (qT x4.size l12)
  refine sgN hK11 <| Qaj <| QaA (ints .u8 ([])) 5 0 19 rfl kj kj fun g13 W7 l13 e7 r13_7=>?_
  have x7:=zbg x6 e7
  have b13:=qT x6.size l13
  refine sg 1 kj ?_
  have r12_7:=(Qaa r12_6 e7)
  refine QaH (k:=.u8) (T:=5) (xs:=[]) (ys:=dig (key)) (V:=W6) 1 (.tmp 19) (.tmp 20) 41 rfl kj kj dd 21 rfl kj kj kj (Qb3 (xs:=[]) rfl l13 r13_7 dd) (QaL (xs:=dig (key)) (n:=32) (QaY _) r12_7 (Qaq r12_7) (show 32≤maxLen from by decide)) (by first | (rw [QaY]; decide) | (simp only [zac]; omega)) (zbd (zbc W6) e7) fun z2 W8 f14 y8 l8=>?_
  have x8:=zbi x7 l8 x6.size
  have hu15:OwnN .u8 5 W6.heap.size (dig (key)) z2 W8:=by have h:=f14; simpa using h
  obtain ⟨a5_16,c5_16,rfl,-⟩:=id (zbh hu15)
  refine sg 1 kj <| Qas <| hK8 _ _ <| wp_seq_k fun K17 hK17=>wp_block ?_
  have hk0:OwnN .u8 5 W6.heap.size (keyL key++zab 0 0) (.slice a5_16 ((dig (key)).length) c5_16) W8:=by rw [zad,zae,←Qkr hlong]; exact hu15
  have hkl:=Qgs key
  refine Qa3 (fun (s1:Nat×Value)=>[(1,.slice a_text text.length c_text),(4,pp g2 0),(5,s1.2)]) (fun (s1:Nat×Value) W=>(s1.1≤64-(keyL key).length)∧(OwnN .u8 5 W6.heap.size (keyL key++zab s1.1 0) s1.2 W)∧(Below W6.heap.size W8 W)∧(Ext w W)) (fun (s1:Nat×Value)=>64-(keyL key).length-s1.1) (0,.slice a5_16 ((dig (key)).length) c5_16) ⟨kj,kj,kj,trivial⟩ ⟨(zaf _),hk0,(RowKit.Below.refl _ W8),x8⟩ fun s1 X1 V1 hI1=>?_
  obtain ⟨i,u⟩:=s1
  obtain ⟨hi,hu,kk1,xx1⟩:=hI1
  replace hi:i≤64-(keyL key).length:=hi
  replace hu:OwnN .u8 5 W6.heap.size (keyL key++zab i 0) u V1:=hu
  replace kk1:Below W6.heap.size W8 V1:=kk1
  replace xx1:Ext w V1:=xx1
  have l9:=kk1
  obtain ⟨a5,c5,rfl,-⟩:=id (zbh hu)
  refine wp_seq_k fun K18 hK18=>sgC fun K19 hK19=>sg 2 kj <| sv (.bool (decide (i<64-(keyL key).length))) 24 (Qac (u:=.bool (decide ((((keyL key++zab i 0).length:Nat):Int)<64))) kj (congrArg zag (by rw [zah,qZ]; exact Qiq _ _ hkl))) ?_
  refine sgN hK19 <| Qay (t:=decide (i<64-(keyL key).length)) kj (fun c20=>?_) (fun c20=>?_)
  ·skip
   have hlt24:i<64-(keyL key).length:=by have:=of_decide_eq_true c20; omega
   refine wp_skip <| hK18 _ _ <| wp_block <| Qaj <| sg 1 kj <| QaA (ints .u8 ([0])) 5 1 26 rfl kj kj fun g21 W10 l21 e10 r21_10=>?_
   have x10:=zbg xx1 e10
   have b21:=qT xx1.size l21
   have y6_9:=(zbi y8 l9 (zbc W6).size)
   refine QaH (k:=.u8) (T:=5) (xs:=keyL key++zab i 0) (ys:=[0]) (V:=W6) 1 (.tmp 25) (.tmp 26) 41 rfl kj kj dd 27 rfl kj kj kj (hu.ext e10) (QaL (xs:=[0]) (n:=1) rfl r21_10 (Qaq r21_10) (show 1≤maxLen from by decide)) (by simp only [zah,qZ,zai,zac]; omega) (zbd y6_9 e10) fun z3 W11 f23 y11 l11=>?_
   have x11:=zbi x10 l11 x6.size
   refine sg 1 kj <| Qas ?_
   with_reducible repeat first | refine goX1 ?_ | refine goX2 ?_ | refine goX3 ?_
   exact Qa1 ((i+1),z3) ⟨kj,kj,kj,trivial⟩ ⟨oo,(by rw [zaj,←zak]; exact f23),(RowKit.Below.trans (RowKit.Below.trans l9 (RowKit.Below.mono e10 y6_9.size)) l11),x11⟩ (by show 64-(keyL key).length-(i+1)<64-(keyL key).length-i; omega)
  ·skip
   have heq24:i=64-(keyL key).length:=by have:=of_decide_eq_false c20; omega
   subst heq24
   have hkB:OwnN .u8 5 W6.heap.size (keyB key) (.slice a5 (keyL key++zab (64-(keyL key).length) 0).length c5) V1:=hu
   refine wp_exit <| hK17 _ _ <| sgB kj <| sgB kj <| wp_seq_k fun K27 hK27=>sgB kj <| wp_block ?_
   have r2_2:=(Qaa r2_1 e2)
   have r2_3:=(Qbk l3 r2_2 (Qaq r2_1))
   have r2_4:=(Qaa r2_3 e4)
   have r2_5:=(Qaa r2_4 e5)
   have r2_6:=(zbe p6 r2_5 (Qad r2_4 l12))
   have r2_7:=(Qaa r2_6 e7)
   have r2_8:=(Qbk l8 r2_7 (Qaq r2_6))
   have r2_9:=(Qbk l9 r2_8 (Qaq r2_6))
   refine Qa3 (fun (s2:Nat×Value×Value)=>[(1,.slice a_text text.length c_text),(4,pp g2 0),(5,.slice a5 ((keyL key++zab (64-(keyL key).length) 0).length) c5),(7,s2.2.1),(8,s2.2.2),(9,.int .i64 (s2.1:Int))]) (fun (s2:Nat×Value×Value) W=>(s2.1≤64)∧(OwnN .u8 5 V1.heap.size ((padX 54 key).take s2.1) s2.2.1 W)∧(OwnN .u8 5 V1.heap.size ((padX 92 key).take s2.1) s2.2.2 W)∧(∀ g,s2.2.2.ownBlock=some g→s2.2.1.ownBlock≠some g)∧(Ext V1 W)∧(Ext w W)) (fun (s2:Nat×Value×Value)=>64-s2.1) (0,(.slice none 0 0),(.slice none 0 0)) ⟨kj,kj,kj,kj,kj,kj,trivial⟩ ⟨(zaf _),(Qb5 _ _ _ _),(Qb5 _ _ _ _),(fun g e=>by cases e),(zbc V1),xx1⟩ fun s2 X2 V2 hI2=>?_
   obtain ⟨i,u,v⟩:=s2
   obtain ⟨hi,hu,hv,hd,kk2,xx2⟩:=hI2
   replace hi:i≤64:=hi
   replace hu:OwnN .u8 5 V1.heap.size ((padX 54 key).take i) u V2:=hu
   replace hv:OwnN .u8 5 V1.heap.size ((padX 92 key).take i) v V2:=hv
   replace hd:∀ g,v.ownBlock=some g→u.ownBlock≠some g:=hd
   replace kk2:Ext V1 V2:=kk2
   replace xx2:Ext w V2:=xx2
   have e10:=kk2
   have f30_10:=(hkB.ext e10)
   have hnk_29:(keyB key).length=64:=(Qb9 key)
   obtain ⟨gck_29,ock_29,hak_29,hlk_29,hck_29⟩:=QbU (zbh f30_10) (by rw [hnk_29]; omega)
   refine wp_seq_k fun K31 hK31=>sgB kj <| Qay (t:=decide ((i:Int)<64)) kj (fun c33=>?_) (fun c33=>?_)
   ·skip
    have hlt29:i<64:=by have:=of_decide_eq_true c33; omega
    refine wp_skip <| hK31 _ _ <| wp_seq_k fun K34 hK34=>wp_block <| sgC fun K35 hK35=>sg 3 kj <| sv (pp gck_29 (ock_29+i)) 35 (QaP 41 _ _ .i64 i gck_29 ock_29 ((keyL key++zab (64-(keyL key).length) 0).length) c5 5 a5 _ hak_29 rfl rfl kj kj kj kj (zal (show i<64 by omega) hnk_29.symm)) <| sv (.int .u8 (nth (keyB key) (i))) 36 (QaB 5 _ _ (.int .u8 (nth (keyB key) (i))) (hck_29 i (zal (show i<64 by omega) hnk_29.symm)) rfl kj kj) <| sv (.int .u8 (nth (padX 54 key) i)) 37 (Qac (u:=.int .u8 (bits .xor .u8 ((nth (keyB key) (i))) (54))) kj (congrArg (zam .u8) (QcK 54 key hlt29).symm)) <| QaA (ints .u8 ([(nth (padX 54 key) i)])) 5 1 38 rfl kj kj fun g36 W11 l36 e11 r36_11=>?_
    have x11:=zbg xx2 e11
    have b36:=qT xx2.size l36
    refine Qcb (k:=.u8) (T:=5) (xs:=(padX 54 key).take i) (ys:=[(nth (padX 54 key) i)]) (V:=V1) 1 (.tmp 32) (.tmp 38) 41 rfl kj kj dd 39 rfl kj kj kj (hu.ext e11) (QaL (xs:=[(nth (padX 54 key) i)]) (n:=1) rfl r36_11 (Qaq r36_11) (show 1≤maxLen from by decide)) (hv.ext e11) hd (by rw [zan,QaC]; show _+1≤_; omega) (zbd e10 e11) fun z4 W12 f40 y12 l12 hP37=>?_
    have x12:=zbi x11 l12 xx1.size
    refine sg 1 kj <| sgN hK35 <| Qaj ?_
    have hnk_42:(keyB key).length=64:=(Qb9 key)
    obtain ⟨gck_42,ock_42,hak_42,hlk_42,hck_42⟩:=QbU (zbh (OwnN.low (n:=0) (f30_10.ext e11) hkB l12)) (by rw [hnk_42]; omega)
    refine sg 3 kj <| sv (pp gck_42 (ock_42+i)) 43 (QaP 41 _ _ .i64 i gck_42 ock_42 ((keyL key++zab (64-(keyL key).length) 0).length) c5 5 a5 _ hak_42 rfl rfl kj kj kj kj (zal (show i<64 by omega) hnk_42.symm)) <| sv (.int .u8 (nth (keyB key) (i))) 44 (QaB 5 _ _ (.int .u8 (nth (keyB key) (i))) (hck_42 i (zal (show i<64 by omega) hnk_42.symm)) rfl kj kj) <| sv (.int .u8 (nth (padX 92 key) i)) 45 (Qac (u:=.int .u8 (bits .xor .u8 ((nth (keyB key) (i))) (92))) kj (congrArg (zam .u8) (QcK 92 key hlt29).symm)) <| QaA (ints .u8 ([(nth (padX 92 key) i)])) 5 1 46 rfl kj kj fun g45 W13 l45 e13 r45_13=>?_
    have x13:=zbg x12 e13
    have b45:=qT x12.size l45
    have y9_13:=(zbd y12 e13)
    refine Qcb (k:=.u8) (T:=5) (xs:=(padX 92 key).take i) (ys:=[(nth (padX 92 key) i)]) (V:=V1) 1 (.tmp 40) (.tmp 46) 41 rfl kj kj dd 47 rfl kj kj kj (hP37.1.ext e13) (QaL (xs:=[(nth (padX 92 key) i)]) (n:=1) rfl r45_13 (Qaq r45_13) (show 1≤maxLen from by decide)) (f40.ext e13) (fun g e h=>hP37.2 g h e) (by rw [zan,QaC]; show _+1≤_; omega) y9_13 fun z5 W14 f49 y14 l14 hP46=>?_
    have x14:=zbi x13 l14 xx1.size
    refine sg 1 kj <| Qas <| hK34 _ _ <| Qaj <| sg 1 kj <| sv (.int .i64 ((i+1:Nat):Int)) 31 (Qac (u:=.int .i64 (zao.wrap ((i:Int)+1))) kj (congrArg (zam .i64) (i64n _ _ oo oo))) <| sg 1 kj <| Qas ?_
    with_reducible repeat first | refine goX1 ?_ | refine goX2 ?_ | refine goX3 ?_
    exact Qa1 ((i+1),z4,z5) ⟨kj,kj,kj,kj,kj,kj,trivial⟩ ⟨oo,(by rw [QdS _ _ hlt29]; exact hP46.1),(by rw [QdS _ _ hlt29]; exact f49),(fun g e h=>hP46.2 g h e),y14,x14⟩ (by show 64-(i+1)<64-i; omega)
   ·skip
    have heq29:i=64:=by have:=of_decide_eq_false c33; omega
    subst heq29
    rw [QgM] at hu hv
    refine wp_exit <| hK27 _ _ <| sgC fun K51 hK51=>sg 2 kj <| Qcb (k:=.u8) (T:=5) (xs:=padX 54 key) (ys:=text) (V:=V1) 1 (.tmp 48) (.tmp 49) 41 rfl kj kj dd 50 rfl kj kj kj hu (RdK.ext ht xx2) hv hd (by rw [QaC]; omega) e10 fun z6 W11 f53 y11 l11 hP52=>?_
    have x11:=zbi xx2 l11 xx1.size
    refine Qao (.agg (ints .u8 (dig (padX 54 key++text)))) 92 #[z6] 51 rfl kj kj (Qfc (padX 54 key++text) _ _ _ (by rw [zah,QaC]; omega) (bytes_app (QcA _ _) htb) (zbh f53)) fun W12 e12=>?_
    have x12:=zbg x11 e12
    have f55_12:=(hP52.1.ext e12)
    refine Qah (ints .u8 (zab 32 0)) 23 10 rfl kj kj fun g56 W13 l56 e13 r56_13=>?_
    have x13:=zbg x12 e13
    refine Qag g56 _ (ints .u8 (dig (padX 54 key++text))) 23 r56_13 rfl kj (Qaf 23 _ _ g56 23 _ _ r56_13 rfl kj kj (isz (n:=32) kj (izT (QaY _))) (eqsz (n:=32) (izT (qZ (n:=32))) (izT (QaY _))) (Qat _ _)) fun W14 p14 r56_14=>?_
    have x14:=zbf p14 x13 (qT x12.size l56)
    refine sgN hK51 <| sgC fun K57 hK57=>?_
    have nb10:(v:Value).ownBlock≠some g56:=fun e=>by have h1:=OwnN.lt f55_12 e; have h2:=l56; omega
    refine sg 2 kj ?_
    have y9_12:=(zbd y11 e12)
    have y9_13:=(zbd y9_12 e13)
    refine QaH (k:=.u8) (T:=5) (xs:=padX 92 key) (ys:=dig (padX 54 key++text)) (V:=V1) 1 (.tmp 52) (.tmp 53) 41 rfl kj kj dd 54 rfl kj kj kj ((f55_12.ext e13).puts p14 nb10) (QaL (xs:=dig (padX 54 key++text)) (n:=32) (QaY _) r56_14 (Qaq r56_14) (show 32≤maxLen from by decide)) (by rw [QaC,QaY]; decide) (zbf p14 y9_13 (qT y9_12.size l56)) fun z7 W15 f60 y15 l15=>?_
    refine Qao (.agg (ints .u8 (dig (padX 92 key++dig (padX 54 key++text))))) 92 #[z7] 55 rfl kj kj (Qfc (padX 92 key++dig (padX 54 key++text)) _ _ _ (by rw [zah,QaC,QaY]; decide) (bytes_app (QcA _ _) (Qed _)) (zbh f60)) fun W16 e16=>?_
    have r2_10:=(Qaa r2_9 e10)
    have r2_11:=(Qbk l11 r2_10 (Qaq r2_9))
    have r2_12:=(Qaa r2_11 e12)
    have r2_16:=(Qaa (Qbk l15 (rpn p14 r2_12 e13 l56) (Qaq r2_9)) e16)
    refine Qag g2 _ (ints .u8 (dig (padX 92 key++dig (padX 54 key++text)))) 23 r2_16 rfl kj (Qaf 23 _ _ g2 23 _ _ r2_16 rfl kj kj (isz (n:=32) kj (izT (QaY _))) (eqsz (n:=32) (izT (qZ (n:=32))) (izT (QaY _))) (Qat _ _)) fun W17 p17 r2_17=>sgN hK57 <| wp_ret ?_
    with_reducible repeat first | refine goR1 ?_ | refine goR2 ?_
    exact (show bodyPost _ _ _ .ret _ _ from ret1 (.agg (ints .u8 (dig (padX 92 key++dig (padX 54 key++text))))) rfl (QaJ g2 23 _ r2_17 kj kj (isz (n:=32) kj (izT (QaY _)))) ⟨rfl,(zbf p17 (zbg (zbi x14 l15 xx1.size) e16) b2)⟩)
 ·skip
  have hlong:¬ 64<key.length:=by have:=of_decide_eq_false c10; omega
  refine wp_skip <| hK8 _ _ <| wp_seq_k fun K62 hK62=>wp_block ?_
  have hk0:OwnN .u8 5 W1.heap.size (keyL key++zab 0 0) (.slice a5_7 ((key).length) c5_7) W3:=by rw [zad,zae,←Qjc hlong]; exact hu6
  have hkl:=Qgs key
  refine Qa3 (fun (s3:Nat×Value)=>[(1,.slice a_text text.length c_text),(4,pp g2 0),(5,s3.2)]) (fun (s3:Nat×Value) W=>(s3.1≤64-(keyL key).length)∧(OwnN .u8 5 W1.heap.size (keyL key++zab s3.1 0) s3.2 W)∧(Below W1.heap.size W3 W)∧(Ext w W)) (fun (s3:Nat×Value)=>64-(keyL key).length-s3.1) (0,.slice a5_7 ((key).length) c5_7) ⟨kj,kj,kj,trivial⟩ ⟨(zaf _),hk0,(RowKit.Below.refl _ W3),x3⟩ fun s3 X3 V3 hI3=>?_
  obtain ⟨i,u⟩:=s3
  obtain ⟨hi,hu,kk3,xx3⟩:=hI3
  replace hi:i≤64-(keyL key).length:=hi
  replace hu:OwnN .u8 5 W1.heap.size (keyL key++zab i 0) u V3:=hu
  replace kk3:Below W1.heap.size W3 V3:=kk3
  replace xx3:Ext w V3:=xx3
  have l4:=kk3
  obtain ⟨a5,c5,rfl,-⟩:=id (zbh hu)
  refine wp_seq_k fun K63 hK63=>sgC fun K64 hK64=>sg 2 kj <| sv (.bool (decide (i<64-(keyL key).length))) 24 (Qac (u:=.bool (decide ((((keyL key++zab i 0).length:Nat):Int)<64))) kj (congrArg zag (by rw [zah,qZ]; exact Qiq _ _ hkl))) ?_
  refine sgN hK64 <| Qay (t:=decide (i<64-(keyL key).length)) kj (fun c65=>?_) (fun c65=>?_)
  ·skip
   have hlt24:i<64-(keyL key).length:=by have:=of_decide_eq_true c65; omega
   refine wp_skip <| hK63 _ _ <| wp_block <| Qaj <| sg 1 kj <| QaA (ints .u8 ([0])) 5 1 26 rfl kj kj fun g66 W5 l66 e5 r66_5=>?_
   have x5:=zbg xx3 e5
   have b66:=qT xx3.size l66
   have y1_4:=(zbi y3 l4 (zbc W1).size)
   refine QaH (k:=.u8) (T:=5) (xs:=keyL key++zab i 0) (ys:=[0]) (V:=W1) 1 (.tmp 25) (.tmp 26) 41 rfl kj kj dd 27 rfl kj kj kj (hu.ext e5) (QaL (xs:=[0]) (n:=1) rfl r66_5 (Qaq r66_5) (show 1≤maxLen from by decide)) (by simp only [zah,qZ,zai,zac]; omega) (zbd y1_4 e5) fun z8 W6 f68 y6 l6=>?_
   have x6:=zbi x5 l6 x1.size
   refine sg 1 kj <| Qas ?_
   with_reducible repeat first | refine goX1 ?_ | refine goX2 ?_ | refine goX3 ?_
   exact Qa1 ((i+1),z8) ⟨kj,kj,kj,trivial⟩ ⟨oo,(by rw [zaj,←zak]; exact f68),(RowKit.Below.trans (RowKit.Below.trans l4 (RowKit.Below.mono e5 y1_4.size)) l6),x6⟩ (by show 64-(keyL key).length-(i+1)<64-(keyL key).length-i; omega)
  ·skip
   have heq24:i=64-(keyL key).length:=by have:=of_decide_eq_false c65; omega
   subst heq24
   have hkB:OwnN .u8 5 W1.heap.size (keyB key) (.slice a5 (keyL key++zab (64-(keyL key).length) 0).length c5) V3:=hu
   refine wp_exit <| hK62 _ _ <| sgB kj <| sgB kj <| wp_seq_k fun K72 hK72=>sgB kj <| wp_block ?_
   have r2_2:=(Qaa r2_1 e2)
   have r2_3:=(Qbk l3 r2_2 (Qaq r2_1))
   have r2_4:=(Qbk l4 r2_3 (Qaq r2_1))
   refine Qa3 (fun (s4:Nat×Value×Value)=>[(1,.slice a_text text.length c_text),(4,pp g2 0),(5,.slice a5 ((keyL key++zab (64-(keyL key).length) 0).length) c5),(7,s4.2.1),(8,s4.2.2),(9,.int .i64 (s4.1:Int))]) (fun (s4:Nat×Value×Value) W=>(s4.1≤64)∧(OwnN .u8 5 V3.heap.size ((padX 54 key).take s4.1) s4.2.1 W)∧(OwnN .u8 5 V3.heap.size ((padX 92 key).take s4.1) s4.2.2 W)∧(∀ g,s4.2.2.ownBlock=some g→s4.2.1.ownBlock≠some g)∧(Ext V3 W)∧(Ext w W)) (fun (s4:Nat×Value×Value)=>64-s4.1) (0,(.slice none 0 0),(.slice none 0 0)) ⟨kj,kj,kj,kj,kj,kj,trivial⟩ ⟨(zaf _),(Qb5 _ _ _ _),(Qb5 _ _ _ _),(fun g e=>by cases e),(zbc V3),xx3⟩ fun s4 X4 V4 hI4=>?_
   obtain ⟨i,u,v⟩:=s4
   obtain ⟨hi,hu,hv,hd,kk4,xx4⟩:=hI4
   replace hi:i≤64:=hi
   replace hu:OwnN .u8 5 V3.heap.size ((padX 54 key).take i) u V4:=hu
   replace hv:OwnN .u8 5 V3.heap.size ((padX 92 key).take i) v V4:=hv
   replace hd:∀ g,v.ownBlock=some g→u.ownBlock≠some g:=hd
   replace kk4:Ext V3 V4:=kk4
   replace xx4:Ext w V4:=xx4
   have e5:=kk4
   have f75_5:=(hkB.ext e5)
   have hnk_74:(keyB key).length=64:=(Qb9 key)
   obtain ⟨gck_74,ock_74,hak_74,hlk_74,hck_74⟩:=QbU (zbh f75_5) (by rw [hnk_74]; omega)
   refine wp_seq_k fun K76 hK76=>sgB kj <| Qay (t:=decide ((i:Int)<64)) kj (fun c78=>?_) (fun c78=>?_)
   ·skip
    have hlt29:i<64:=by have:=of_decide_eq_true c78; omega
    refine wp_skip <| hK76 _ _ <| wp_seq_k fun K79 hK79=>wp_block <| sgC fun K80 hK80=>sg 3 kj <| sv (pp gck_74 (ock_74+i)) 35 (QaP 41 _ _ .i64 i gck_74 ock_74 ((keyL key++zab (64-(keyL key).length) 0).length) c5 5 a5 _ hak_74 rfl rfl kj kj kj kj (zal (show i<64 by omega) hnk_74.symm)) <| sv (.int .u8 (nth (keyB key) (i))) 36 (QaB 5 _ _ (.int .u8 (nth (keyB key) (i))) (hck_74 i (zal (show i<64 by omega) hnk_74.symm)) rfl kj kj) <| sv (.int .u8 (nth (padX 54 key) i)) 37 (Qac (u:=.int .u8 (bits .xor .u8 ((nth (keyB key) (i))) (54))) kj (congrArg (zam .u8) (QcK 54 key hlt29).symm)) <| QaA (ints .u8 ([(nth (padX 54 key) i)])) 5 1 38 rfl kj kj fun g81 W6 l81 e6 r81_6=>?_
    have x6:=zbg xx4 e6
    have b81:=qT xx4.size l81
    refine Qcb (k:=.u8) (T:=5) (xs:=(padX 54 key).take i) (ys:=[(nth (padX 54 key) i)]) (V:=V3) 1 (.tmp 32) (.tmp 38) 41 rfl kj kj dd 39 rfl kj kj kj (hu.ext e6) (QaL (xs:=[(nth (padX 54 key) i)]) (n:=1) rfl r81_6 (Qaq r81_6) (show 1≤maxLen from by decide)) (hv.ext e6) hd (by rw [zan,QaC]; show _+1≤_; omega) (zbd e5 e6) fun z9 W7 f85 y7 l7 hP82=>?_
    have x7:=zbi x6 l7 xx3.size
    refine sg 1 kj <| sgN hK80 <| Qaj ?_
    have hnk_87:(keyB key).length=64:=(Qb9 key)
    obtain ⟨gck_87,ock_87,hak_87,hlk_87,hck_87⟩:=QbU (zbh (OwnN.low (n:=0) (f75_5.ext e6) hkB l7)) (by rw [hnk_87]; omega)
    refine sg 3 kj <| sv (pp gck_87 (ock_87+i)) 43 (QaP 41 _ _ .i64 i gck_87 ock_87 ((keyL key++zab (64-(keyL key).length) 0).length) c5 5 a5 _ hak_87 rfl rfl kj kj kj kj (zal (show i<64 by omega) hnk_87.symm)) <| sv (.int .u8 (nth (keyB key) (i))) 44 (QaB 5 _ _ (.int .u8 (nth (keyB key) (i))) (hck_87 i (zal (show i<64 by omega) hnk_87.symm)) rfl kj kj) <| sv (.int .u8 (nth (padX 92 key) i)) 45 (Qac (u:=.int .u8 (bits .xor .u8 ((nth (keyB key) (i))) (92))) kj (congrArg (zam .u8) (QcK 92 key hlt29).symm)) <| QaA (ints .u8 ([(nth (padX 92 key) i)])) 5 1 46 rfl kj kj fun g90 W8 l90 e8 r90_8=>?_
    have x8:=zbg x7 e8
    have b90:=qT x7.size l90
    have y4_8:=(zbd y7 e8)
    refine Qcb (k:=.u8) (T:=5) (xs:=(padX 92 key).take i) (ys:=[(nth (padX 92 key) i)]) (V:=V3) 1 (.tmp 40) (.tmp 46) 41 rfl kj kj dd 47 rfl kj kj kj (hP82.1.ext e8) (QaL (xs:=[(nth (padX 92 key) i)]) (n:=1) rfl r90_8 (Qaq r90_8) (show 1≤maxLen from by decide)) (f85.ext e8) (fun g e h=>hP82.2 g h e) (by rw [zan,QaC]; show _+1≤_; omega) y4_8 fun z10 W9 f94 y9 l9 hP91=>?_
    have x9:=zbi x8 l9 xx3.size
    refine sg 1 kj <| Qas <| hK79 _ _ <| Qaj <| sg 1 kj <| sv (.int .i64 ((i+1:Nat):Int)) 31 (Qac (u:=.int .i64 (zao.wrap ((i:Int)+1))) kj (congrArg (zam .i64) (i64n _ _ oo oo))) <| sg 1 kj <| Qas ?_
    with_reducible repeat first | refine goX1 ?_ | refine goX2 ?_ | refine goX3 ?_
    exact Qa1 ((i+1),z9,z10) ⟨kj,kj,kj,kj,kj,kj,trivial⟩ ⟨oo,(by rw [QdS _ _ hlt29]; exact hP91.1),(by rw [QdS _ _ hlt29]; exact f94),(fun g e h=>hP91.2 g h e),y9,x9⟩ (by show 64-(i+1)<64-i; omega)
   ·skip
    have heq29:i=64:=by have:=of_decide_eq_false c78; omega
    subst heq29
    rw [QgM] at hu hv
    refine wp_exit <| hK72 _ _ <| sgC fun K96 hK96=>sg 2 kj <| Qcb (k:=.u8) (T:=5) (xs:=padX 54 key) (ys:=text) (V:=V3) 1 (.tmp 48) (.tmp 49) 41 rfl kj kj dd 50 rfl kj kj kj hu (RdK.ext ht xx4) hv hd (by rw [QaC]; omega) e5 fun z11 W6 f98 y6 l6 hP97=>?_
    have x6:=zbi xx4 l6 xx3.size
    refine Qao (.agg (ints .u8 (dig (padX 54 key++text)))) 92 #[z11] 51 rfl kj kj (Qfc (padX 54 key++text) _ _ _ (by rw [zah,QaC]; omega) (bytes_app (QcA _ _) htb) (zbh f98)) fun W7 e7=>?_
    have x7:=zbg x6 e7
    have f100_7:=(hP97.1.ext e7)
    refine Qah (ints .u8 (zab 32 0)) 23 10 rfl kj kj fun g101 W8 l101 e8 r101_8=>?_
    have x8:=zbg x7 e8
    refine Qag g101 _ (ints .u8 (dig (padX 54 key++text))) 23 r101_8 rfl kj (Qaf 23 _ _ g101 23 _ _ r101_8 rfl kj kj (isz (n:=32) kj (izT (QaY _))) (eqsz (n:=32) (izT (qZ (n:=32))) (izT (QaY _))) (Qat _ _)) fun W9 p9 r101_9=>?_
    have x9:=zbf p9 x8 (qT x7.size l101)
    refine sgN hK96 <| sgC fun K102 hK102=>?_
    have nb10:(v:Value).ownBlock≠some g101:=fun e=>by have h1:=OwnN.lt f100_7 e; have h2:=l101; omega
    refine sg 2 kj ?_
    have y4_7:=(zbd y6 e7)
    have y4_8:=(zbd y4_7 e8)
    refine QaH (k:=.u8) (T:=5) (xs:=padX 92 key) (ys:=dig (padX 54 key++text)) (V:=V3) 1 (.tmp 52) (.tmp 53) 41 rfl kj kj dd 54 rfl kj kj kj ((f100_7.ext e8).puts p9 nb10) (QaL (xs:=dig (padX 54 key++text)) (n:=32) (QaY _) r101_9 (Qaq r101_9) (show 32≤maxLen from by decide)) (by rw [QaC,QaY]; decide) (zbf p9 y4_8 (qT y4_7.size l101)) fun z12 W10 f105 y10 l10=>?_
    have x10:=zbi x9 l10 xx3.size
    refine Qao (.agg (ints .u8 (dig (padX 92 key++dig (padX 54 key++text))))) 92 #[z12] 55 rfl kj kj (Qfc (padX 92 key++dig (padX 54 key++text)) _ _ _ (by rw [zah,QaC,QaY]; decide) (bytes_app (QcA _ _) (Qed _)) (zbh f105)) fun W11 e11=>?_
    have x11:=zbg x10 e11
    have r2_5:=(Qaa r2_4 e5)
    have r2_6:=(Qbk l6 r2_5 (Qaq r2_4))
    have r2_7:=(Qaa r2_6 e7)
    have r2_8:=(Qaa r2_7 e8)
    have r2_9:=(zbe p9 r2_8 (Qad r2_7 l101))
    have r2_10:=(Qbk l10 r2_9 (Qaq r2_4))
    have r2_11:=(Qaa r2_10 e11)
    refine Qag g2 _ (ints .u8 (dig (padX 92 key++dig (padX 54 key++text)))) 23 r2_11 rfl kj (Qaf 23 _ _ g2 23 _ _ r2_11 rfl kj kj (isz (n:=32) kj (izT (QaY _))) (eqsz (n:=32) (izT (qZ (n:=32))) (izT (QaY _))) (Qat _ _)) fun W12 p12 r2_12=>?_
    have x12:=zbf p12 x11 b2
    refine sgN hK102 <| wp_ret ?_
    with_reducible repeat first | refine goR1 ?_ | refine goR2 ?_
    exact (show bodyPost _ _ _ .ret _ _ from ret1 (.agg (ints .u8 (dig (padX 92 key++dig (padX 54 key++text))))) rfl (QaJ g2 23 _ r2_12 kj kj (isz (n:=32) kj (izT (QaY _)))) ⟨rfl,x12⟩)
end Sha
end
section
namespace Sha
open Go Go.RowKit
open Rely Auto Own
section
variable {P : Program} {ρ : Operand → Value} {o : Oper} {w : World}
theorem Qhu (t : TypeId) (x z:Operand) (h:Nat) (e:TypeId) (ho:o.op=.slice t x none (some z) none) {a:Option Addr} {len cap:Nat} (hx:ρ x=.slice a len cap)
    (hu:P.underlying t=some (.slice e)) (hs:(P.info? e).map (·.size)=some 1) (kz:IntKind) (hz:ρ z=.int kz (h:Int)) (h2:h≤cap) :
    (execOp ρ o).run P w=.ok (.value (.slice a h cap)) w:=by
  cases hq:P.info? e with
  | none=>simp [hq] at hs
  | some i =>
    have hs':i.size=1:=by simpa [hq] using hs
    unfold execOp
    have hadd:∀ a:Option Addr,Option.map (fun x=>x.add 0) a=a:=fun a=>by
      cases a with
      | none=>rfl
      | some a=>obtain ⟨b,o,s⟩:=a; cases s <;> simp [Addr.add]
    simp [ho,hx,hz,Instr.sliceAt,Instr.slice,Instr.sliceBounds,run_sliceBound,run_underlying hu,sizeOf,typeInfo,hq,hs',h2,hadd]
end
theorem Ql1 {T : TypeId} {base n c:Nat} {xs:List Int} {a:Option Addr} {W:World} (h:OwnN .u8 T base xs (.slice a xs.length c) W) (hn:n≤xs.length):OwnN .u8 T base (xs.take n) (.slice a n c) W:=by
  have hl:(xs.take n).length=n:=by rw [zan]; omega
  obtain ⟨⟨h1,h2⟩,hm⟩:=h
  rcases h2 with ⟨h2,h3⟩ | ⟨g,c',cur,e,q2,q3,q4,q5,q6,q7⟩
  · simp only [zap.injEq] at h2
    obtain ⟨rfl,h4,rfl⟩:=h2
    obtain rfl:=zaq.1 h4
    obtain rfl:n=0:=by simpa using hn
    exact Qb5 _ _ _ _
  · simp only [zap.injEq] at e
    obtain ⟨rfl,-,rfl⟩:=e
    refine Qgi hl q2 q3 oo oo q5 ?_
    have:cur.toList.take n=(cur.toList.take (xs.length*1)).take n:=by rw [zar]; congr 1; omega
    rw [this,q7,List.map_take]
theorem Qlq (key info:List Int) (v1 v2:Value) (B B2 n:Nat) (w:World) (hn:n≤8160) (hkl:key.length≤800000000) (hil:info.length≤700000000) (hkb:Qak key) (hib:Qak info) (hk:RdK .u8 B key v1 w) (hi:RdK .u8 B2 info v2 w) :
  Calls Tryz.prog 70 #[v1,v2,.int .i64 (n:Int)] w (Qby w (fun v W=>∃ u k,v=.tuple #[u,.bool true]∧n≤32*k∧OwnN .u8 5 w.heap.size ((okm key info k).take n) u W)):=by
 obtain ⟨a_key,c_key,rfl,-⟩:=id hk
 obtain ⟨a_info,c_info,rfl,-⟩:=id hi
 refine enter 44 [(0,.slice a_key key.length c_key),(1,.slice a_info info.length c_info),(2,.int .i64 (n:Int))] Tryz.func70 rfl rfl kj rfl <| sgB kj <| wp_seq_k fun K2 hK2=>sgC fun K3 hK3=>sg 1 kj <| sv (.bool false) 13 (Qac (u:=.bool (decide ((n:Int)<0))) kj (congrArg zag (decide_eq_false oo))) <| sg 2 kj <| sv (.bool false) 16 (Qac (u:=.bool (decide ((n:Int)>8160))) kj (congrArg zag (decide_eq_false oo))) <| sg 1 kj <| sgN hK3 ?_
 refine cond_false kj <| wp_skip <| hK2 _ _ <| sgB kj <| sgB kj <| wp_seq_k fun K6 hK6=>sgB kj <| wp_block <| Qa3 (fun (s1:Nat×Value×Value)=>[(0,.slice a_key key.length c_key),(1,.slice a_info info.length c_info),(2,.int .i64 (n:Int)),(8,s1.2.1),(9,s1.2.2),(10,.int .i64 ((s1.1+1:Nat):Int))]) (fun (s1:Nat×Value×Value) W=>(32*s1.1<n+32)∧(OwnN .u8 5 w.heap.size (okm key info s1.1) s1.2.1 W)∧(OwnN .u8 5 w.heap.size (tg key info s1.1) s1.2.2 W)∧(∀ g,s1.2.2.ownBlock=some g→s1.2.1.ownBlock≠some g)∧(Ext w W)∧(Ext w W)) (fun (s1:Nat×Value×Value)=>n-32*s1.1) (0,(.slice none 0 0),(.slice none 0 0)) ⟨kj,kj,kj,kj,kj,kj,trivial⟩ ⟨(show 32*0<n+32 by omega),(Qb5 _ _ _ _),(Qb5 _ _ _ _),(fun g e=>by cases e),(zbc w),(zbc w)⟩ fun s1 X1 V1 hI1=>?_
 obtain ⟨k,u,v⟩:=s1
 obtain ⟨hkn,hu,hv,hd,kk1,xx1⟩:=hI1
 replace hkn:32*k<n+32:=hkn
 replace hu:OwnN .u8 5 w.heap.size (okm key info k) u V1:=hu
 replace hv:OwnN .u8 5 w.heap.size (tg key info k) v V1:=hv
 replace hd:∀ g,v.ownBlock=some g→u.ownBlock≠some g:=hd
 replace kk1:Ext w V1:=kk1
 replace xx1:Ext w V1:=xx1
 have e1:=kk1
 obtain ⟨a8,c8,rfl,-⟩:=id (zbh hu)
 refine wp_seq_k fun K8 hK8=>sgC fun K9 hK9=>sg 3 kj <| sv (.bool (decide (32*k<n))) 21 (Qac (u:=.bool (decide ((((okm key info k).length:Nat):Int)<(n:Int)))) kj (congrArg zag (QlN _ _ _ _))) <| sgN hK9 <| Qay (t:=decide (32*k<n)) kj (fun c10=>?_) (fun c10=>?_)
 ·skip
  have hlt:32*k<n:=of_decide_eq_true c10
  refine wp_skip <| hK8 _ _ <| wp_seq_k fun K11 hK11=>wp_block <| sgC fun K12 hK12=>sg 1 kj <| QaA (ints .u8 ([])) 5 0 25 rfl kj kj fun g13 W2 l13 e2 r13_2=>?_
  have b13:=qT xx1.size l13
  refine sg 1 kj <| QaH (k:=.u8) (T:=5) (xs:=[]) (ys:=tg key info k) (V:=V1) 1 (.tmp 25) (.tmp 26) 41 rfl kj kj dd 27 rfl kj kj kj (Qb3 (xs:=[]) rfl l13 r13_2 dd) (zbh (hv.ext e2)) (by have:=Qj1 key info k; simp only [zah,zai,zac]; omega) (zbd (zbc V1) e2) fun z1 W3 f15 y3 l3=>?_
  have x3:=zbi (zbg xx1 e2) l3 xx1.size
  refine sg 1 kj <| QaH (k:=.u8) (T:=5) (xs:=[]++tg key info k) (ys:=info) (V:=V1) 1 (.tmp 27) (.tmp 28) 41 rfl kj kj dd 29 rfl kj kj kj f15 (RdK.ext hi x3) (by have:=Qj1 key info k; simp only [zah,zai,zac]; omega) y3 fun z2 W4 f17 y4 l4=>?_
  have x4:=zbi x3 l4 xx1.size
  refine sg 1 kj <| sv (.int .u8 ((k+1:Nat):Int)) 31 (Qac (u:=.int .u8 (zas.wrap ((k+1:Nat):Int))) kj (congrArg (zam .u8) (u8_n _ oo))) <| QaA (ints .u8 ([((k+1:Nat):Int)])) 5 1 32 rfl kj kj fun g19 W5 l19 e5 r19_5=>?_
  have b19:=qT x4.size l19
  refine QaH (k:=.u8) (T:=5) (xs:=[]++tg key info k++info) (ys:=[((k+1:Nat):Int)]) (V:=V1) 1 (.tmp 29) (.tmp 32) 41 rfl kj kj dd 33 rfl kj kj kj (f17.ext e5) (QaL (xs:=[((k+1:Nat):Int)]) (n:=1) rfl r19_5 (Qaq r19_5) (show 1≤maxLen from by decide)) (by have:=Qj1 key info k; simp only [zah,zai,zac]; omega) (zbd y4 e5) fun z3 W6 f21 y6 l6=>?_
  have x6:=zbi (zbg x4 e5) l6 xx1.size
  have hm23:OwnN .u8 5 V1.heap.size ((tg key info k++info)++[((k+1:Nat):Int)]) z3 W6:=f21
  refine Qao (.agg (ints .u8 (hmac (key) ((tg key info k++info)++[((k+1:Nat):Int)])))) 85 #[.slice a_key key.length c_key,z3] 34 rfl kj kj (Qps key ((tg key info k++info)++[((k+1:Nat):Int)]) _ _ _ _ _ oo (by have:=Qj1 key info k; simp only [zah,zai,zac]; omega) hkb (bytes_app (bytes_app (QfV _ _ _) hib) (fun x hx=>by rw [zat] at hx; subst hx; omega)) (RdK.ext hk x6) (zbh hm23)) fun W7 e7=>?_
  have x7:=zbg x6 e7
  have f29_7:=((OwnN.low (n:=0) ((OwnN.low (n:=0) (OwnN.low (n:=0) (hu.ext e2) hu l3) hu l4).ext e5) hu l6).ext e7)
  refine Qah (ints .u8 (zab 32 0)) 23 11 rfl kj kj fun g30 W8 l30 e8 r30_8=>?_
  have nb11:(.slice a8 ((okm key info k).length) c8:Value).ownBlock≠some g30:=fun e=>by have h1:=OwnN.lt f29_7 e; have h2:=l30; omega
  refine Qag g30 _ (ints .u8 (hmac (key) ((tg key info k++info)++[((k+1:Nat):Int)]))) 23 r30_8 rfl kj (Qaf 23 _ _ g30 23 _ _ r30_8 rfl kj kj (isz (n:=32) kj (izT (QbL _ _))) (eqsz (n:=32) (izT (qZ (n:=32))) (izT (QbL _ _))) (Qat _ _)) fun W9 p9 r30_9=>?_
  have x9:=zbf p9 (zbg x7 e8) (qT x7.size l30)
  refine sgN hK12 <| sgC fun K31 hK31=>?_
  have f33_9:=((f29_7.ext e8).puts p9 nb11)
  refine QaA (ints .u8 ([])) 5 0 35 rfl kj kj fun g34 W10 l34 e10 r34_10=>?_
  have b34:=qT x9.size l34
  refine sg 1 kj ?_
  have r30_10:=(Qaa r30_9 e10)
  refine QaH (k:=.u8) (T:=5) (xs:=[]) (ys:=hmac (key) ((tg key info k++info)++[((k+1:Nat):Int)])) (V:=W9) 1 (.tmp 35) (.tmp 36) 41 rfl kj kj dd 37 rfl kj kj kj (Qb3 (xs:=[]) rfl l34 r34_10 dd) (QaL (xs:=hmac (key) ((tg key info k++info)++[((k+1:Nat):Int)])) (n:=32) (QbL _ _) r30_10 (Qaq r30_10) (show 32≤maxLen from by decide)) (by rw [QbL]; decide) (zbd (zbc W9) e10) fun z4 W11 f35 y11 l11=>?_
  refine sg 1 kj <| sgN hK31 <| Qaj ?_
  have hz37:OwnN .u8 5 W9.heap.size (tg key info (k+1)) z4 W11:=f35
  have hd37:∀ g,(z4:Value).ownBlock=some g→(.slice a8 ((okm key info k).length) c8:Value).ownBlock≠some g:=fun g e1 e2=>by have h1:=OwnN.ge hz37 e1; have h2:=OwnN.lt f33_9 e2; omega
  refine sg 2 kj ?_
  have y0_7:=(zbd (zbi (zbd (zbi (zbi (zbd e1 e2) l3 e1.size) l4 e1.size) e5) l6 e1.size) e7)
  have y0_9:=(zbf p9 (zbd y0_7 e8) (qT y0_7.size l30))
  refine Qcb (k:=.u8) (T:=5) (xs:=okm key info k) (ys:=tg key info (k+1)) (V:=w) 1 (.tmp 38) (.tmp 39) 41 rfl kj kj dd 40 rfl kj kj kj (OwnN.low (n:=0) (f33_9.ext e10) f33_9 l11) (zbh hz37) hz37 hd37 (by rw [QdD,tg,QbL]; omega) (zbi (zbd y0_9 e10) l11 y0_9.size) fun z5 W12 f40 y12 l12 hP=>?_
  refine sg 1 kj <| Qas <| hK11 _ _ <| Qaj <| sg 1 kj <| sv (.int .i64 (((k+1)+1:Nat):Int)) 23 (Qac (u:=.int .i64 (zao.wrap (((k+1:Nat):Int)+1))) kj (congrArg (zam .i64) (i64n _ _ oo oo))) <| sg 1 kj <| Qas ?_
  with_reducible repeat first | refine goX1 ?_ | refine goX2 ?_ | refine goX3 ?_
  exact Qa1 ((k+1),z5,z4) ⟨kj,kj,kj,kj,kj,kj,trivial⟩ ⟨oo,(by rw [okm]; exact f40),(OwnN.base y0_9.size hP.1),hP.2,y12,(zbi (zbi (zbg x9 e10) l11 x9.size) l12 (zbc w).size)⟩ (by show n-32*(k+1)<n-32*k; omega)
 ·skip
  have hge:n≤32*k:=by have:=of_decide_eq_false c10; omega
  have hcap:n≤c8:=by
   obtain ⟨_,_,e,q2,_⟩:=zbh hu
   simp only [zap.injEq] at e
   obtain ⟨-,-,rfl⟩:=e
   rw [QdD] at q2; omega
  refine wp_exit <| hK6 _ _ <| sgC fun K42 hK42=>sg 2 kj <| sv (.slice a8 n c8) 43 (Qhu (len:=(okm key info k).length) 41 _ _ n 5 rfl kj kj kj .i64 kj hcap) <| sg 2 kj <| sgN hK42 <| wp_ret ?_
  with_reducible repeat first | refine goR1 ?_ | refine goR2 ?_
  exact (show bodyPost _ _ _ .ret _ _ from ret2 (.slice a8 n c8) (.bool true) rfl (Qax kj) (Qax kj) ⟨_,rfl,xx1,_,k,rfl,hge,OwnN.base (zbc w).size (Ql1 hu (by rw [QdD]; exact hge))⟩)
end Sha
end
section
namespace Sha
open Go Go.RowKit
open Rely Auto Own
structure Once (base n : Nat) (ys : List Int) (W W' : World) : Prop where
  os:W'.os=W.os
  tape:W'.tape=W.tape
  output:W'.output=W.output
  size:W.heap.size≤W'.heap.size
  block:∀ g,g<W.heap.size→W'.heap[g]? = W.heap[g]?∨(base≤g∧∃ cs cs' T,W.heap[g]? = some (.cells cs T)∧W'.heap[g]? = some (.cells cs' T)∧cs'.size=cs.size∧∀ i,cs'[i]? = cs[i]?∨(n≤i∧cs'[i]? = some (.int .u8 (nth ys (i-n)))))
theorem Once.refl (base n:Nat) (ys:List Int) (W:World):Once base n ys W W:=⟨rfl,rfl,rfl,qR _,fun _ _=>.inl rfl⟩
theorem Once.trans {base n:Nat} {ys:List Int} {a b c:World} (h:Once base n ys a b) (k:Once base n ys b c):Once base n ys a c:=by
  refine ⟨k.os.trans h.os,k.tape.trans h.tape,k.output.trans h.output,qT h.size k.size,fun g hg=>?_⟩
  rcases k.block g (qL hg h.size) with h2 | ⟨hb,cs,cs',T,r1,r2,r3,r4⟩
  · rw [h2]; exact h.block g hg
  · rcases h.block g hg with h1 | ⟨_,ds,ds',T',s1,s2,s3,s4⟩
    · exact .inr ⟨hb,cs,cs',T,h1▸r1,r2,r3,r4⟩
    · rw [s2] at r1
      simp only [Option.some.injEq,Obj.cells.injEq] at r1
      obtain ⟨rfl,rfl,-⟩:=r1
      refine .inr ⟨hb,ds,cs',T',s1,r2,r3.trans s3,fun i=>?_⟩
      rcases r4 i with r | ⟨r,r'⟩
      · rw [r]; exact s4 i
      · exact .inr ⟨r,r'⟩
theorem Once.ext {base n:Nat} {ys:List Int} {a b:World} (e:Ext a b):Once base n ys a b:=⟨e.os,e.tape,e.output,e.size,fun g hg=>.inl (e.block g hg)⟩
theorem Qj2 {cs : Array Value} {xs:List Int} {k:IntKind} (h:∀ i,i<xs.length→cs[i]? = some (.int k (nth xs i))):cs.toList.take xs.length=xs.map (zam k):=by
  apply zau
  intro i
  rw [zav]
  by_cases hi:i<xs.length
  · rw [if_pos hi,zaw,h i hi,zax,zay hi]
    simp [nth,hi]
  · rw [if_neg hi,zax,zaz oo]; rfl
theorem Ql3 {base n:Nat} {ys xs:List Int} {T:TypeId} (hx:∀ i,i<xs.length→n≤i→nth xs i=nth ys (i-n)):Qb2 (Once base n ys) (OwnN .u8 T base xs):=fun v W W' hR h=>by
  rcases Nat.eq_zero_or_pos xs.length with h0 | h0
  · obtain ⟨⟨h1,h2⟩,hm⟩:=h
    refine ⟨⟨h1,?_⟩,hm⟩
    rcases h2 with h2 | ⟨g,c,cur,rfl,q2,q3,q4,q5,q6,q7⟩
    · exact .inl h2
    · rcases hR.block g (Qaq q3) with h | ⟨hb,cs,cs',T',r1,r2,r3,r4⟩
      · exact .inr ⟨g,c,cur,rfl,q2,h.trans q3,q4,q5,q6,q7⟩
      · rw [q3] at r1
        simp only [Option.some.injEq,Obj.cells.injEq] at r1
        obtain ⟨rfl,rfl,-⟩:=r1
        refine .inr ⟨g,c,cs',rfl,q2,r2,q4,q5,r3.trans q6,?_⟩
        obtain rfl:=zaq.1 h0
        rfl
  · obtain ⟨g,c,cur,rfl,q2,q3,q4,q5,q6,q7⟩:=QdU h h0
    rcases hR.block g (Qaq q3) with h2 | ⟨hb,cs,cs',T',r1,r2,r3,r4⟩
    · exact h.keep fun g' hg=>by
        obtain rfl:g=g':=Option.some.inj hg
        exact h2
    · rw [q3] at r1
      simp only [Option.some.injEq,Obj.cells.injEq] at r1
      obtain ⟨rfl,rfl,-⟩:=r1
      refine Qgi rfl q2 r2 (r3.trans q4) q5 q6 (Qj2 fun i hi=>?_)
      rcases r4 i with r | ⟨r,r'⟩
      · rw [r]; exact QdF q7 hi
      · rw [r',hx i hi r]
theorem Qmd {P : Program} {T:TypeId} {b:Nat} {ρ:Operand→Value} {o:Oper} {W:World} (s x:Operand) (t:TypeId) (ho:o.op=.call { callee:=.builtin .append,args:=#[s,x],argTypes:=#[t,t] })
    (ht:P.underlying t=some (.slice T)) (hi:(P.info? T).map (fun i=>(i.zero,i.size,i.bytes))=some (some (.int .u8 0),1,b)) (hb8:b≤8) {base B n:Nat} {v y:Value} {xs ys Y:List Int} (hs:ρ s=v) (hx:ρ x=y)
    (h:OwnN .u8 T base xs v W) (hy:RdK .u8 B ys y W) (hn:xs.length+ys.length≤1000000000) (hbase:base≤W.heap.size) (hY:(∃ g,v=.slice (some ⟨g,0,none⟩) 0 0)∨(xs.length=n∧ys=Y)) :
    ∃ v' W',(execOp ρ o).run P W=.ok (.value v') W'∧Once base n Y W W'∧OwnN .u8 T base (xs++ys) v' W':=by
  obtain ⟨i,hq,hi1,hi2,hi3⟩:=QlJ hi
  obtain ⟨v2,W2,r2,o2,g2,-⟩:=Qdk (ρ:=ρ) (o:=o) (W:=W) s x t ho ht hi hb8 hs hx h hy hn hbase
  refine ⟨v2,W2,r2,?_,o2⟩
  rcases h.1.2 with ⟨h0,h0'⟩ | ⟨g,c,cur,rfl,q2,q3,q4,q5,q6,q7⟩
  · exact ⟨g2.os,g2.tape,g2.output,g2.size,fun k hk=>.inl (g2.block k hk (by rw [h0]; intro e; cases e))⟩
  · have hc0:(∃ g',(zap (some ⟨g,0,none⟩) xs.length c)=.slice (some ⟨g',0,none⟩) 0 0)→c=0:=fun ⟨g',e'⟩=>by
      simp only [zap.injEq] at e'
      exact e'.2.2
    obtain ⟨a,cap,rfl,y2,y3,y4,y5⟩:=hy
    have hgo:∀ (v':Value) (W':World),(Builtin.append_ #[t,t] o.type #[.slice (some ⟨g,0,none⟩) xs.length c,.slice a ys.length cap]).run P W=.ok v' W'→(execOp ρ o).run P W=.ok (.value v') W':=fun v' W' hr=>by
      unfold execOp
      simp only [ho,resolve,invoke,builtin,Sem.run_bind,Sem.run_pure,Result.andThen_ok,List.map_toArray,List.map_cons,List.map_nil,hs,hx,hr]
    have same:∀ (v':Value) (W':World),(execOp ρ o).run P W=.ok (.value v') W'→W2=W':=fun v' W' hr=>by
      rw [r2] at hr
      injection hr
    refine ⟨g2.os,g2.tape,g2.output,g2.size,fun k hk=>?_⟩
    by_cases hkg:k=g
    · subst hkg
      cases a with
      | none =>
        have hc0:=y4 rfl
        have hy0:ys=[]:=zaq.1 oo
        subst hy0
        subst hc0
        exact .inl (by rw [same _ _ (hgo _ _ (run_append_owned_none (P:=P) W base t o.type T i 1 ht hq _ xs.length _ h.1))])
      | some a =>
        have hnews:∀ j u,(ys.map (zam .u8))[j]? = some u→W.cell? (a.add j)=some u:=by
          rcases y5 with rfl | ⟨g',o',e1,e2,e3,e4⟩
          · intro j u hu; simp at hu
          · obtain rfl:=Option.some.inj e1
            exact Qh7 e4
        by_cases hroom:xs.length+ys.length≤c
        · have hr:=run_append_room (P:=P) W t o.type T i ht hq k xs.length c cur q3 a ys.length cap (ys.map (zam .u8)) (by simp [hi2]) hnews (Qh3 _ ys) hroom (by rw [hi2]; simp; omega)
          have hW:=same _ _ (hgo _ _ hr)
          rw [hW]
          refine .inr ⟨q2,_,_,_,q3,setRow_heap W k cur _ T _ q3,?_,fun j=>?_⟩
          · simp only [List.size_toArray,zah,zan,za0,za1,za2,hi2]; omega
          · simp only [List.getElem?_toArray,hi2,Nat.mul_one]
            have hl1:(List.take xs.length cur.toList).length=xs.length:=by
              have e:cur.toList.length=cur.size:=za2
              rw [zan,e]; omega
            rw [zak]
            rcases za3 j xs.length with hj | hj
            · left
              rw [za4 oo,zav,if_pos hj,zaw]
            · rw [za5 oo,hl1]
              rcases za3 (j-xs.length) ys.length with hj2 | hj2
              · right
                rcases hY with hY | ⟨rfl,rfl⟩
                · have:=hc0 hY; omega
                · refine ⟨hj,?_⟩
                  rw [za4 (by rw [za1]; exact hj2),zax,zay hj2]
                  simp [nth,hj2]
              · left
                rw [za5 (by rw [za1]; exact hj2),za1,List.getElem?_drop,zaw]
                congr 1; omega
        · have holds:=h.1.cells (g:=k) rfl
          have hr:=run_append_grow (P:=P) W t o.type T i (.int .u8 0) ht hq hi1 ⟨k,0,none⟩ xs.length c (xs.map (zam .u8)) (by simp [hi2]) (by simpa using holds) a ys.length cap (ys.map (zam .u8)) (by simp [hi2]) hnews oo oo (growslice_fits oo (by
            rw [hi3]
            have:(xs.length+ys.length)*b≤1000000000*8:=Nat.mul_le_mul hn hb8
            omega))
          have hW:=same _ _ (hgo _ _ hr)
          rw [hW]
          exact .inl (heap_alloc_old W.drew _ hk)
    · exact .inl (g2.block k hk (fun e=>hkg (Option.some.inj e)))
end Sha
end
section
namespace Sha
open Go Go.RowKit
open Rely Auto Own
theorem Qlp (key info:List Int) (v1 v2:Value) (B B2 n:Nat) (w:World) (hn:n≤8160) (hkl:key.length≤800000000) (hil:info.length≤700000000) (hkb:Qak key) (hib:Qak info) (hk:RdK .u8 B key v1 w) (hi:RdK .u8 B2 info v2 w) :
    Calls Tryz.prog 70 #[v1,v2,.int .i64 (n:Int)] w (Qby w (fun v W=>∃ u,v=.tuple #[u,.bool true]∧OwnN .u8 5 w.heap.size (kx key info n) u W)) :=
  (Qlq key info v1 v2 B B2 n w hn hkl hil hkb hib hk hi).mono fun e W' ⟨v,h1,h2,u,k,h3,h4,h5⟩=>⟨v,h1,h2,u,h3,QoK key info n k h4▸h5⟩
theorem QhH {P : Program} {ds:List Deferred} {id:Nat} {Q:Exit→Act→World→Prop} {N:Nat} {L:Env} {w:World} {l:List Oper} (R:World→World→Prop) (hrf:∀ W,R W W) (htr:∀ {a b c:World},R a b→R b c→R a c) (n:Nat) (S:List Src) (hm:P.follows .mixedOrders=true) (hok:ok l n N S=true)
    (h:∀ F:List KE→Prop,(∀ C,(∀ W,R w.drew W→finE (fun L W=>WL P l.toArray Q (l.drop n) (Qav ds N L) W) (l.take n) C L W)→F C)→Qbn P R w.drew N L F (l.take n) S []) :
    (Code.region id l.toArray true).wp P Q (Qav ds N L) w:=by
  refine QcQ R n N S hm hok (Qc8 N L) hrf (fun a b=>htr a b) fun F r0 hr hF=>?_
  rw [QbF] at hr
  subst hr
  have:=h (fun C=>∀ W,R w.drew W→finE (fun L W=>WL P l.toArray Q (l.drop n) (Qav ds N L) W) (l.take n) C L W) (fun C h=>h)
  exact Qci (G:=F) (fun C h=>hF.out fun W hR=>Qjj (Q:=fun a W=>wpList P l.toArray Q (l.drop n) a W) _ _ _ (QcZ (fun L W h=>h.out) _ _ _ _ (h W hR))) _ _ [] this
theorem Once.below {base n:Nat} {ys:List Int} {W W':World} (h:Once base n ys W W') (hb:base≤W.heap.size):Below base W W' :=
  ⟨h.os,h.tape,h.output,h.size,fun g hg=>by
    rcases h.block g oo with h | ⟨hb,_⟩
    · exact h
    · omega⟩
theorem Once.rd {base n B:Nat} {k:IntKind} {ys zs:List Int} {v:Value} {W W':World} (h:Once base n ys W W') (hr:RdK k B zs v W) (hB:B≤base):RdK k B zs v W':=hr.keep h.size fun g hg hl=>by
  rcases h.block g hl with h | ⟨hb,_⟩
  · exact h
  · omega
structure Qc7 (g base n : Nat) (ys : List Int) (W W' : World) : Prop where
  once:Once base n ys W W'
  other:∀ k,k<W.heap.size→k≠g→W'.heap[k]? = W.heap[k]?
theorem Qc7.refl (g base n:Nat) (ys:List Int) (W:World):Qc7 g base n ys W W:=⟨Once.refl _ _ _ _,fun _ _ _=>rfl⟩
theorem Qc7.trans {g base n:Nat} {ys:List Int} {a b c:World} (h:Qc7 g base n ys a b) (k:Qc7 g base n ys b c):Qc7 g base n ys a c:=⟨h.once.trans k.once,fun i hi hn=>(k.other i (qL hi h.once.size) hn).trans (h.other i hi hn)⟩
theorem Qc7.ext {g base n:Nat} {ys:List Int} {a b:World} (e:Ext a b):Qc7 g base n ys a b:=⟨Once.ext e,fun i hi _=>e.block i hi⟩
theorem Qc7.row {g base n:Nat} {ys:List Int} {a b:World} {k:Nat} {ob:Obj} (h:Qc7 g base n ys a b) (r:a.heap[k]? = some ob) (hn:k≠g):b.heap[k]? = some ob:=(h.other k (Qaq r) hn).trans r
theorem QgN {g base n:Nat} {ys xs:List Int} {T:TypeId} (hx:∀ i,i<xs.length→n≤i→nth xs i=nth ys (i-n)):Qb2 (Qc7 g base n ys) (OwnN .u8 T base xs):=fun v W W' hR h=>Ql3 hx v W W' hR.once h
theorem QfI {g base n b:Nat} {ys xs:List Int} {T:TypeId} {v:Value} {W W':World} (hR:Qc7 g base n ys W W') (h:OwnN .u8 T b xs v W) (hn:v.ownBlock≠some g):OwnN .u8 T b xs v W':=h.keep fun k hk=>hR.other k (h.lt hk) (fun e=>hn (by rw [hk,e]))
theorem QkP {P : Program} {T:TypeId} {ρ:Operand→Value} {o:Oper} {W:World} (s x:Operand) (t:TypeId) (ho:o.op=.call { callee:=.builtin .append,args:=#[s,x],argTypes:=#[t,t] })
    (ht:P.underlying t=some (.slice T)) (hi:(P.info? T).map (fun i=>(i.zero,i.size,i.bytes))=some (some (.int .u8 0),1,1)) {g c base B:Nat} {y:Value} {xs ys:List Int} (hs:ρ s=.slice (some ⟨g,0,none⟩) xs.length c) (hx:ρ x=y)
    (h:OwnN .u8 T base xs (.slice (some ⟨g,0,none⟩) xs.length c) W) (hy:RdK .u8 B ys y W) (hn:xs.length+ys.length≤1000000000) (hbase:base≤W.heap.size) :
    ∃ v' W',(execOp ρ o).run P W=.ok (.value v') W'∧Qc7 g base xs.length ys W W'∧OwnN .u8 T base (xs++ys) v' W':=by
  obtain ⟨v',W',r,q,p⟩:=Qmd (ρ:=ρ) (o:=o) (W:=W) (n:=xs.length) (Y:=ys) (b:=1) s x t ho ht hi dd hs hx h hy hn hbase (.inr ⟨rfl,rfl⟩)
  obtain ⟨v2,W2,r2,o2,g2,-⟩:=Qdk (ρ:=ρ) (o:=o) (W:=W) (b:=1) s x t ho ht hi dd hs hx h hy hn hbase
  rw [r] at r2
  injection r2 with _ r3
  subst r3
  exact ⟨v',W',r,⟨q,fun k hk hn=>g2.block k hk (fun e=>hn (Option.some.inj e))⟩,p⟩
section
variable {P : Program} {R : World → World → Prop} {w0 : World} {N : Nat} {L : Env} {F : List KE → Prop} {o : Oper} {os : List Oper} {s : Src} {ss : List Src} {C : List KE}
theorem Qmh (φ : Fact) (hφ:Qb2 R φ) {rd:List (Tmp×Option Nat)}
    (h:∀ (ρ:Tmp→Value) (W:World),R w0 W→Qcz (envN N L) (C.map KE.fact) ρ W rd→∃ v W',(execOp (Rely.look ρ) o).run P W=.ok (.value v) W'∧R W W'∧φ v W')
    (hk:Qbn P R w0 N L F os ss (C++[.ex φ])):Qbn P R w0 N L F (o::os) (⟨none,rd⟩::ss) C :=
  ⟨.ex φ,hφ,fun ρ W hR hh=>by
    obtain ⟨v,W',h1,h2,h3⟩:=h ρ W hR hh
    show Qca _ _ _ _ _
    rw [h1]
    exact ⟨h2,h3⟩,hk⟩
theorem QkX (hrf : ∀ W,R W W) (hre:∀ {A B:World},Ext A B→R A B) (φ:Fact) (hφ:Qb2 R φ) (f:FuncId) {rd:List (Tmp×Option Nat)}
    (h:∀ (ρ:Tmp→Value) (W:World),R w0 W→Qcz (envN N L) (C.map KE.fact) ρ W rd→∃ args,(execOp (Rely.look ρ) o).run P W=.ok (.enter f args) W∧Calls P f args W (Qby W φ))
    (hk:Qbn P R w0 N L F os ss (C++[.ex φ])):Qbn P R w0 N L F (o::os) (⟨none,rd⟩::ss) C :=
  ⟨.ex φ,hφ,fun ρ W hR hh=>by
    obtain ⟨args,h1,h2⟩:=h ρ W hR hh
    show Qca _ _ _ _ _
    rw [h1]
    exact ⟨hrf _,h2.mono fun _ _ h=>QhV h.fact (fun e=>hre e)⟩,hk⟩
end
theorem Qlo (sec ctx:List Int) (s:ByteArray) (v2:Value) (B2:Nat) (w:World)   (hsl:sec.length=32) (hsb:Qak sec) (hxb:Qak ctx) (hx:RdK .u8 B2 ctx v2 w) (n:Int) (h:255<(strB s).length):Calls Tryz.prog 50 #[.agg (ints .u8 sec),.string s,v2,.int .i64 n] w (Ret w (.tuple #[.slice none 0 0,.bool false])):=by
  obtain ⟨a_ctx,c_ctx,rfl,-⟩:=id hx
  refine enter 67 [(0,.agg (ints .u8 (sec))),(1,.string s),(2,.slice a_ctx ctx.length c_ctx),(3,.int .i64 n)] Tryz.func50 rfl rfl kj rfl <| sgC fun K1 hK1=>Qah (ints .u8 (sec)) 23 4 rfl kj kj fun g2 W1 l2 e1 r2_1=>?_
  have b2:=qT (zbc w).size l2
  refine sg 2 kj <| sgN hK1 <| wp_seq_k fun K3 hK3=>sgC fun K4 hK4=>sg 1 kj <| sv (.int .i64 (((strB s).length:Nat):Int)) 13 (Qac (u:=.int .i64 (s.size:Int)) kj (congrArg (fun z:Nat=>zam .i64 (z:Int)) (Qch s).symm)) <| sv (.bool true) 14 (Qac (u:=.bool (decide ((((strB s).length:Nat):Int)>255))) kj (congrArg zag (decide_eq_true oo))) <| sg 13 kj <| sgN hK4 <| cond_true kj ?_
  refine sgB kj <| wp_ret ?_
  with_reducible repeat first | refine goR1 ?_ | refine goR2 ?_
  exact (show bodyPost _ _ _ .ret _ _ from ret2 (.slice none 0 0) (.bool false) rfl (Qax kj) (Qax kj) ⟨rfl,(zbg (zbc w) e1)⟩)
theorem QmO (sec ctx:List Int) (s:ByteArray) (v2:Value) (B2:Nat) (w:World)   (hsl:sec.length=32) (hsb:Qak sec) (hxb:Qak ctx) (hx:RdK .u8 B2 ctx v2 w) (n:Nat) (hn:n≤8160) (hl:(strB s).length≤255) (hc2:ctx.length≤65536):Calls Tryz.prog 50 #[.agg (ints .u8 sec),.string s,v2,.int .i64 (n:Int)] w (Qby w (fun v W=>∃ u,v=.tuple #[u,.bool true]∧OwnN .u8 5 w.heap.size (kx sec (Qb8 (strB s) ctx n) n) u W)):=by
  obtain ⟨a_ctx,c_ctx,rfl,-⟩:=id hx
  refine enter 67 [(0,.agg (ints .u8 (sec))),(1,.string s),(2,.slice a_ctx ctx.length c_ctx),(3,.int .i64 (n:Int))] Tryz.func50 rfl rfl kj rfl <| sgC fun K1 hK1=>Qah (ints .u8 (sec)) 23 4 rfl kj kj fun g2 W1 l2 e1 r2_1=>?_
  have x1:=zbg (zbc w) e1
  have b2:=qT (zbc w).size l2
  refine sg 2 kj <| sgN hK1 <| wp_seq_k fun K3 hK3=>sgC fun K4 hK4=>sg 1 kj <| sv (.int .i64 (((strB s).length:Nat):Int)) 13 (Qac (u:=.int .i64 (s.size:Int)) kj (congrArg (fun z:Nat=>zam .i64 (z:Int)) (Qch s).symm)) <| sv (.bool false) 14 (Qac (u:=.bool (decide ((((strB s).length:Nat):Int)>255))) kj (congrArg zag (decide_eq_false oo))) <| sg 3 kj <| sv (.bool false) 18 (Qac (u:=.bool (decide ((ctx.length:Int)>65536))) kj (congrArg zag (decide_eq_false oo))) <| sg 3 kj ?_
  refine sv (.bool false) 22 (Qac (u:=.bool (decide ((n:Int)<0))) kj (congrArg zag (decide_eq_false oo))) <| sg 3 kj <| sv (.bool false) 26 (Qac (u:=.bool (decide ((n:Int)>8160))) kj (congrArg zag (decide_eq_false oo))) <| sg 1 kj <| sgN hK4 <| cond_false kj <| wp_skip <| hK3 _ _ <| sgB kj <| sgC fun K6 hK6=>?_
  refine sg 1 kj <| sv (.int .i64 ((n/256:Nat):Int)) 31 (Qac (u:=.int .i64 (zao.wrap (za6 ((n:Int)) (256)))) kj (congrArg (zam .i64) (Qcv _ 256 oo))) <| sv (.int .u8 ((n/256:Nat):Int)) 32 (Qac (u:=.int .u8 (zas.wrap ((n/256:Nat):Int))) kj (congrArg (zam .u8) (Qee (n/256) (n/256) oo))) <| sg 1 kj <| sv (.int .i64 ((n%256:Nat):Int)) 34 (Qac (u:=.int .i64 (za7 ((n:Int)) (256))) kj (congrArg (zam .i64) (QbK _ 256))) <| sv (.int .u8 ((n%256:Nat):Int)) 35 (Qac (u:=.int .u8 (zas.wrap ((n%256:Nat):Int))) kj (congrArg (zam .u8) (Qee (n%256) (n%256) oo))) <| sg 1 kj <| sv (.int .i64 (((strB s).length:Nat):Int)) 37 (Qac (u:=.int .i64 (s.size:Int)) kj (congrArg (fun z:Nat=>zam .i64 (z:Int)) (Qch s).symm)) <| sv (.int .u8 ((((strB s).length:Nat):Int))) 38 (Qac (u:=.int .u8 (zas.wrap (((strB s).length:Nat):Int))) kj (congrArg (zam .u8) (Qee ((strB s).length) ((strB s).length) oo))) <| QaA (ints .u8 ([((n/256:Nat):Int),((n%256:Nat):Int),((((strB s).length:Nat):Int))])) 5 3 39 rfl kj kj fun g7 W2 l7 e2 r7_2=>?_
  have b7:=qT x1.size l7
  refine sg 1 kj <| Qfa (T:=5) (xs:=[((n/256:Nat):Int),((n%256:Nat):Int),((((strB s).length:Nat):Int))]) (lab:=s) (V:=W1) (.tmp 39) (.tmp 40) 41 9 rfl kj kj kj 41 rfl kj kj kj (Qb3 (xs:=[((n/256:Nat):Int),((n%256:Nat):Int),((((strB s).length:Nat):Int))]) (n:=3) rfl l7 r7_2 dd) (by have:(Qc2 (strB s) n).length=3:=rfl; (try simp only [zah,zai,zac]); omega) (zbd (zbc W1) e2) fun z2 W3 f8 y3 l3=>?_
  have x3:=zbi (zbg x1 e2) l3 x1.size
  have hu9:OwnN .u8 5 W1.heap.size (Qc2 (strB s) n++strB s) z2 W3:=f8
  refine sg 1 kj <| sgN hK6 <| sgC fun K10 hK10=>sg 2 kj <| sv (.int .i64 ((ctx.length/16777216:Nat):Int)) 44 (Qac (u:=.int .i64 (zao.wrap (za6 ((ctx.length:Int)) (16777216)))) kj (congrArg (zam .i64) (Qcv _ 16777216 oo))) <| sv (.int .u8 ((ctx.length/16777216:Nat):Int)) 45 (Qac (u:=.int .u8 (zas.wrap ((ctx.length/16777216:Nat):Int))) kj (congrArg (zam .u8) (Qee (ctx.length/16777216) (ctx.length/16777216) oo))) <| sg 1 kj <| sv (.int .i64 ((ctx.length/65536:Nat):Int)) 47 (Qac (u:=.int .i64 (zao.wrap (za6 ((ctx.length:Int)) (65536)))) kj (congrArg (zam .i64) (Qcv _ 65536 oo))) <| sv (.int .i64 (((ctx.length/65536)%256:Nat):Int)) 48 (Qac (u:=.int .i64 (za7 ((ctx.length/65536:Nat):Int) (256))) kj (congrArg (zam .i64) (QbK _ 256))) <| sv (.int .u8 ((ctx.length/65536%256:Nat):Int)) 49 (Qac (u:=.int .u8 (zas.wrap (((ctx.length/65536)%256:Nat):Int))) kj (congrArg (zam .u8) (Qee (ctx.length/65536%256) (ctx.length/65536%256) oo))) ?_
  refine sg 1 kj <| sv (.int .i64 ((ctx.length/256:Nat):Int)) 51 (Qac (u:=.int .i64 (zao.wrap (za6 ((ctx.length:Int)) (256)))) kj (congrArg (zam .i64) (Qcv _ 256 oo))) <| sv (.int .i64 (((ctx.length/256)%256:Nat):Int)) 52 (Qac (u:=.int .i64 (za7 ((ctx.length/256:Nat):Int) (256))) kj (congrArg (zam .i64) (QbK _ 256))) <| sv (.int .u8 ((ctx.length/256%256:Nat):Int)) 53 (Qac (u:=.int .u8 (zas.wrap (((ctx.length/256)%256:Nat):Int))) kj (congrArg (zam .u8) (Qee (ctx.length/256%256) (ctx.length/256%256) oo))) <| sg 1 kj <| sv (.int .i64 ((ctx.length%256:Nat):Int)) 55 (Qac (u:=.int .i64 (za7 ((ctx.length:Int)) (256))) kj (congrArg (zam .i64) (QbK _ 256))) <| sv (.int .u8 ((ctx.length%256:Nat):Int)) 56 (Qac (u:=.int .u8 (zas.wrap ((ctx.length%256:Nat):Int))) kj (congrArg (zam .u8) (Qee (ctx.length%256) (ctx.length%256) oo))) <| QaA (ints .u8 ([((ctx.length/16777216:Nat):Int),((ctx.length/65536%256:Nat):Int),((ctx.length/256%256:Nat):Int),((ctx.length%256:Nat):Int)])) 5 4 57 rfl kj kj fun g11 W4 l11 e4 r11_4=>?_
  have b11:=qT x3.size l11
  refine QaH (k:=.u8) (T:=5) (xs:=Qc2 (strB s) n++strB s) (ys:=[((ctx.length/16777216:Nat):Int),((ctx.length/65536%256:Nat):Int),((ctx.length/256%256:Nat):Int),((ctx.length%256:Nat):Int)]) (V:=W1) 1 (.tmp 42) (.tmp 57) 41 rfl kj kj dd 58 rfl kj kj kj (hu9.ext e4) (QaL (xs:=[((ctx.length/16777216:Nat):Int),((ctx.length/65536%256:Nat):Int),((ctx.length/256%256:Nat):Int),((ctx.length%256:Nat):Int)]) (n:=4) rfl r11_4 (Qaq r11_4) (show 4≤maxLen from by decide)) (by have:(Qc2 (strB s) n).length=3:=rfl; simp only [zah,zai,zac]; omega) (zbd y3 e4) fun z3 W5 f13 y5 l5=>?_
  have x5:=zbi (zbg x3 e4) l5 x1.size
  have hu15:OwnN .u8 5 W1.heap.size ((Qc2 (strB s) n++strB s)++QdI ctx.length) z3 W5:=f13
  refine sg 1 kj <| sgN hK10 <| wp_seq_k fun K16 hK16=>?_
  have hxs:RdK .u8 w.heap.size ctx (.slice a_ctx ctx.length c_ctx) W5:=(RdK.here hx).ext x5
  have hbx:w.heap.size≤W1.heap.size:=x1.size
  have hbW:W1.heap.size≤W5.heap.size:=y5.size
  have hlx:((Qc2 (strB s) n++strB s)++QdI ctx.length).length+ctx.length≤1000000000:=by have:(Qc2 (strB s) n).length=3:=rfl; have:(QdI ctx.length).length=4:=rfl; simp only [zah]; omega
  obtain ⟨gz,cz,curz,hze,hz1,hz2,-,-,-,-⟩:=QdU hu15 (by have:(Qc2 (strB s) n).length=3:=rfl; simp only [zah]; omega)
  have hgz:=Qaq hz2
  subst hze
  have hn4:g2≠gz:=by have h1:=Qaq r2_1; omega
  refine QhH (Qc7 gz W1.heap.size ((Qc2 (strB s) n++strB s)++QdI ctx.length).length ctx) (Qc7.refl _ _ _ _) (fun h k=>Qc7.trans h k) 8 [⟨none,[(4,none)]⟩,⟨none,[(11,none)]⟩,⟨none,[(2,none)]⟩,⟨none,[(60,some 1),(61,some 2)]⟩,⟨none,[(3,none)]⟩,⟨none,[(59,some 0),(62,some 3),(63,some 4)]⟩,⟨none,[(64,some 5)]⟩,⟨none,[(64,some 5)]⟩] kj kj fun F hF=>QfR (Qc7.refl _ _ _ _) (.slice (some ⟨g2,0,none⟩) 32 32) kj kj (fun W hR=>kj) <| QfR (Qc7.refl _ _ _ _) (.slice (some ⟨gz,0,none⟩) ((Qc2 (strB s) n++strB s)++QdI ctx.length).length cz) kj kj (fun W hR=>kj) <| QfR (Qc7.refl _ _ _ _) (.slice a_ctx ctx.length c_ctx) kj kj (fun W hR=>kj) <| QnR (OwnN .u8 5 W1.heap.size (((Qc2 (strB s) n++strB s)++QdI ctx.length)++ctx)) (QgN (fun i hi h=>by unfold nth; rw [za8,za8,za5 h])) kj kj (fun W hR=>QkP (.tmp 60) (.tmp 61) 41 (by rfl) kj kj kj kj (QgN (fun i hi h=>absurd hi oo) _ _ _ hR (hu15.ext (Qan _))) (hR.once.rd (hxs.ext (Qan _)) hbx) hlx (qT hbW (qT (Qan W5).size hR.once.size))) ?_
  refine QfR (Qc7.refl _ _ _ _) (.int .i64 (n:Int)) kj kj (fun W hR=>kj) <| QkX (Qc7.refl _ _ _ _) (fun e=>Qc7.ext e) (fun v W=>∃ u,v=.tuple #[u,.bool true]∧OwnN .u8 5 w.heap.size (kx sec (Qb8 (strB s) ctx n) n) u W∧u.ownBlock≠some gz) (fun v W W' hR h=>by obtain ⟨u,e,h1,h2⟩:=h; exact ⟨u,e,QfI hR h1 h2,h2⟩) 70 (fun ρ W hR hh=>?_) ?_
  · have e59:ρ 59=.slice (some ⟨g2,0,none⟩) 32 32:=hh.1
    have h62:OwnN .u8 5 W1.heap.size (((Qc2 (strB s) n++strB s)++QdI ctx.length)++ctx) (ρ 62) W:=hh.2.1
    have e63:ρ 63=.int .i64 (n:Int):=hh.2.2.1
    have h4:=hR.row (Qaa (Qbk l5 (Qaa (Qbk l3 (Qaa r2_1 e2) (Qaq r2_1)) e4) (Qaq r2_1)) (Qan _)) hn4
    have hWs:w.heap.size≤W.heap.size:=qT x5.size (qT (Qan W5).size hR.once.size)
    have hgW:gz<W.heap.size:=qL hgz (qT (Qan W5).size hR.once.size)
    refine ⟨#[.slice (some ⟨g2,0,none⟩) 32 32,ρ 62,.int .i64 (n:Int)],Eq.trans (b:=Result.ok (Next.enter 70 #[ρ 59,ρ 62,ρ 63]) W) kj (by rw [e59,e63]),?_⟩
    exact (Qlp sec (Qb8 (strB s) ctx n) _ _ _ _ n _ hn oo (by rw [Qhc]; omega) hsb (Qfp _ _ _ (Qf7 s) hxb hl hc2 hn) (QaL (xs:=sec) (n:=32) hsl h4 (Qaq h4) dd) (zbh h62)).mono fun e W' ⟨v,q1,q2,u,q3,q4⟩=>⟨v,q1,q2,u,q3,OwnN.base hWs q4,fun e=>by have:=q4.ge e; omega⟩
  refine Qmh (fun v W=>OwnN .u8 5 w.heap.size (kx sec (Qb8 (strB s) ctx n) n) v W∧v.ownBlock≠some gz) (fun v W W' hR h=>⟨QfI hR h.1 h.2,h.2⟩) (fun ρ W hR hh=>?_) ?_
  · obtain ⟨u,e64,q1,q2⟩:=hh.1
    exact ⟨u,W,run_extractT (.tmp 64) 0 #[u,.bool true] u rfl e64 rfl,Qc7.refl _ _ _ _ _,q1,q2⟩
  refine Qmh (fun v W=>v=.bool true) (fun v W W' hR h=>h) (fun ρ W hR hh=>?_) ?_
  · obtain ⟨u,e64,q1,q2⟩:=hh.1
    exact ⟨.bool true,W,run_extractT (.tmp 64) 1 #[u,.bool true] _ rfl e64 rfl,Qc7.refl _ _ _ _ _,rfl⟩
  refine Qc3 (hF _ fun W6 hR=>?_)
  simp only [za9,zaA,zaB,zaC,zaD,zaE,finE,up]
  rintro z4 hz4 z64 hz64 z65 ⟨hz65,-⟩ z66 rfl
  clear hF
  have l6:Below W1.heap.size W5 W6:=Qjo (hR.once.below (qT hbW (Qan _).size)) hbW
  refine sg 2 kj <| sgN hK16 <| wp_ret ?_
  with_reducible repeat first | refine goR1 ?_ | refine goR2 ?_
  exact (show bodyPost _ _ _ .ret _ _ from ret2 (z65) (.bool true) rfl (Qax kj) (Qax kj) ⟨_,rfl,(zbi x5 l6 x1.size),z65,rfl,hz65⟩)
end Sha
end
section
namespace Sha
open Go Go.RowKit
open Rely Auto Own
theorem QjI (sec : List Int) (s:ByteArray) (w:World)   (hsl:sec.length=32) (hsb:Qak sec) (h:(strB s).length≤255):Calls Tryz.prog 35 #[.agg (ints .u8 sec),.string s] w (Ret w (.agg (ints .u8 (Qb7 sec (strB s))))):=by
 refine enter 28 [(0,.agg (ints .u8 (sec))),(1,.string s)] Tryz.func35 rfl rfl kj rfl <| sgC fun K1 hK1=>Qah (ints .u8 (sec)) 23 2 rfl kj kj fun g2 W1 l2 e1 r2_1=>?_
 have x1:=zbg (zbc w) e1
 have b2:=qT (zbc w).size l2
 refine Qah (ints .u8 (zab 32 0)) 23 4 rfl kj kj fun g3 W2 l3 e2 r3_2=>?_
 have x2:=zbg x1 e2
 refine sgN hK1 <| sgC fun K4 hK4=>Qah (ints .u8 (zab 32 0)) 23 5 rfl kj kj fun g5 W3 l5 e3 r5_3=>sgN hK4 <| sgC fun K6 hK6=>sv (.agg (ints .u8 (sec))) 10 (Qae 23 _ g2 23 _ _ (Qaa (Qaa r2_1 e2) e3) rfl kj kj (isz (n:=32) kj (izT hsl))) <| sg 1 kj <| Qau (fun v W'=>(fun v W=>∃ u,v=.tuple #[u,.bool true]∧OwnN .u8 5 W3.heap.size (kx sec (Qb8 (strB s) [] 32) 32) u W) v W'∧Ext W3 W') 50 #[.agg (ints .u8 (sec)),.string s,.slice none 0 0,.int .i64 32] 12 rfl kj kj ((QmO sec [] s (.slice none 0 0) _ _ hsl hsb (fun x hx=>by cases hx) (nilrd _) 32 dd h dd).mono mo1) fun vv7 W4 hh7=>?_
 obtain ⟨hv7,e4⟩:=hh7
 obtain ⟨uu,rfl,huu⟩:=hv7
 obtain ⟨au,cu,rfl,-⟩:=id (zbh huu)
 have nb5:(zap au (kx sec (Qb8 (strB s) [] 32) 32).length cu).ownBlock≠some g5:=fun e=>by have h1:=OwnN.ge huu e; have h2:=Qaq r5_3; omega
 refine sg 5 kj <| sgN hK6 <| wp_seq_k fun K8 hK8=>sgB kj <| wp_block ?_
 have hkl:=QbR sec (Qb8 (strB s) [] 32) 32
 refine Qa3 (fun (s1:Nat)=>[(0,.agg (ints .u8 (sec))),(1,.string s),(2,pp g2 0),(4,pp g3 0),(5,pp g5 0),(6,.slice au ((kx sec (Qb8 (strB s) [] 32) 32).length) cu),(7,.bool true),(8,.int .i64 (s1:Int))]) (fun (s1:Nat) W=>(s1≤32)∧(W.heap[g5]? = some (.cells (ints .u8 (fillL (kx sec (Qb8 (strB s) [] 32) 32) 32 s1)) 23))∧(Qai [g5] W4 W)∧(Ext w W)) (fun (s1:Nat)=>32-s1) 0 ⟨kj,kj,kj,kj,kj,kj,kj,kj,trivial⟩ ⟨dd,(Qa9 (Qaa r5_3 e4) (fillL_zero (kx sec (Qb8 (strB s) [] 32) 32) 32)),(Qai.refl [g5] W4),(zbg (zbg x2 e3) e4)⟩ fun s1 X1 V1 hI1=>?_
 obtain ⟨i,hs1⟩:∃ z,z=s1:=⟨_,rfl⟩
 subst hs1
 obtain ⟨hi,q5_1,kk1,xx1⟩:=hI1
 replace hi:i≤32:=hi
 replace q5_1:V1.heap[g5]? = some (.cells (ints .u8 (fillL (kx sec (Qb8 (strB s) [] 32) 32) 32 i)) 23):=q5_1
 replace kk1:Qai [g5] W4 V1:=kk1
 replace xx1:Ext w V1:=xx1
 have q5:=kk1
 refine wp_seq_k fun K10 hK10=>sgB kj <| Qay (t:=decide ((i:Int)<(((kx sec (Qb8 (strB s) [] 32) 32).length:Nat):Int))) kj (fun c12=>?_) (fun c12=>?_)
 ·skip
  have hlt:i<32:=by have:=of_decide_eq_true c12; omega
  refine wp_skip <| hK10 _ _ <| wp_seq_k fun K13 hK13=>wp_block <| Qaj <| sg 3 kj ?_
  have hnu_14:(kx sec (Qb8 (strB s) [] 32) 32).length=32:=(QbR _ _ _)
  obtain ⟨gcu_14,ocu_14,hau_14,hlu_14,hcu_14⟩:=QbU (zbh (OwnN.keepsL huu q5 (nb_cons nb5 nb_nil))) (by rw [hnu_14]; omega)
  refine sv (pp gcu_14 (ocu_14+i)) 24 (QaP 41 _ _ .i64 i gcu_14 ocu_14 ((kx sec (Qb8 (strB s) [] 32) 32).length) cu 5 au _ hau_14 rfl rfl kj kj kj kj (zal (show i<32 by omega) hnu_14.symm)) <| sv (.int .u8 (nth (kx sec (Qb8 (strB s) [] 32) 32) (i))) 25 (QaB 5 _ _ (.int .u8 (nth (kx sec (Qb8 (strB s) [] 32) 32) (i))) (hcu_14 i (zal (show i<32 by omega) hnu_14.symm)) rfl kj kj) <| sv (pp g5 i) 26 (Qa7 _ _ _ .i64 (i) _ 32 5 rfl kj kj kj kj oo) <| Qag g5 _ (ints .u8 ((fillL (kx sec (Qb8 (strB s) [] 32) 32) 32 i).set i (nth (kx sec (Qb8 (strB s) [] 32) 32) (i)))) 23 q5_1 rfl kj (Qa0 5 _ _ g5 i 23 _ _ q5_1 rfl kj kj kj (zal oo (fillL_len _ 32 i (QbR _ _ _) hi).symm)) fun W6 p6 r5_6=>?_
  have x6:=zbf p6 xx1 (qT x2.size l5)
  refine Qas <| hK13 _ _ <| Qaj <| sg 1 kj <| sv (.int .i64 ((i+1:Nat):Int)) 20 (Qac (u:=.int .i64 (zao.wrap ((i:Int)+1))) kj (congrArg (zam .i64) (i64n _ _ oo oo))) <| sg 1 kj <| Qas ?_
  with_reducible repeat first | refine goX1 ?_ | refine goX2 ?_ | refine goX3 ?_
  exact Qa1 (i+1) ⟨kj,kj,kj,kj,kj,kj,kj,kj,trivial⟩ ⟨oo,(Qa9 r5_6 (fillL_step _ 32 i (QbR _ _ _) hlt)),(Qai.puts q5 p6 (.inl (by simp))),x6⟩ (by show 32-(i+1)<32-i; omega)
 ·skip
  have hie:i=32:=by have:=of_decide_eq_false c12; omega
  subst hie
  have r5_5_16:V1.heap[g5]? = some (.cells (ints .u8 (kx sec (Qb8 (strB s) [] 32) 32)) 23):=Qa9 q5_1 (fillL_full _ 32 (QbR _ _ _))
  refine wp_exit <| hK8 _ _ <| sgC fun K17 hK17=>sv (.agg (ints .u8 (kx sec (Qb8 (strB s) [] 32) 32))) 27 (Qae 23 _ g5 23 _ _ r5_5_16 rfl kj kj (isz (n:=32) kj (izT (QbR _ _ _)))) ?_
  have r3_5:=(Qai.row q5 (Qaa (Qaa r3_2 e3) e4) (Qaw (Qad r3_2 l5) QaF))
  refine Qag g3 _ (ints .u8 (kx sec (Qb8 (strB s) [] 32) 32)) 23 r3_5 rfl kj (Qaf 23 _ _ g3 23 _ _ r3_5 rfl kj kj (isz (n:=32) kj (izT (QbR _ _ _))) (eqsz (n:=32) (izT (qZ (n:=32))) (izT (QbR _ _ _))) (Qat _ _)) fun W6 p6 r3_6=>?_
  have x6:=zbf p6 xx1 (qT x1.size l3)
  refine sgN hK17 <| wp_ret ?_
  with_reducible repeat first | refine goR1 ?_ | refine goR2 ?_
  exact (show bodyPost _ _ _ .ret _ _ from ret1 (.agg (ints .u8 (kx sec (Qb8 (strB s) [] 32) 32))) rfl (QaJ g3 23 _ r3_6 kj kj (isz (n:=32) kj (izT (QbR _ _ _)))) ⟨congrArg (fun z=>Ending.returned (.agg (ints .u8 z))) (show _=Qb7 sec (strB s) by unfold Qb7; rw [if_pos h]),x6⟩)
theorem QjH (sec : List Int) (s:ByteArray) (w:World)   (hsl:sec.length=32) (hsb:Qak sec) (h:255<(strB s).length):Calls Tryz.prog 35 #[.agg (ints .u8 sec),.string s] w (Ret w (.agg (ints .u8 (Qb7 sec (strB s))))):=by
  refine enter 28 [(0,.agg (ints .u8 (sec))),(1,.string s)] Tryz.func35 rfl rfl kj rfl <| sgC fun K1 hK1=>Qah (ints .u8 (sec)) 23 2 rfl kj kj fun g2 W1 l2 e1 r2_1=>?_
  have x1:=zbg (zbc w) e1
  have b2:=qT (zbc w).size l2
  refine Qah (ints .u8 (zab 32 0)) 23 4 rfl kj kj fun g3 W2 l3 e2 r3_2=>?_
  have x2:=zbg x1 e2
  refine sgN hK1 <| sgC fun K4 hK4=>Qah (ints .u8 (zab 32 0)) 23 5 rfl kj kj fun g5 W3 l5 e3 r5_3=>?_
  have b5:=qT x2.size l5
  refine sgN hK4 <| sgC fun K6 hK6=>sv (.agg (ints .u8 (sec))) 10 (Qae 23 _ g2 23 _ _ (Qaa (Qaa r2_1 e2) e3) rfl kj kj (isz (n:=32) kj (izT hsl))) <| sg 1 kj <| Qao (.tuple #[.slice none 0 0,.bool false]) 50 #[.agg (ints .u8 (sec)),.string s,.slice none 0 0,.int .i64 32] 12 rfl kj kj ((fun W=>Qlo sec [] s (.slice none 0 0) _ W hsl hsb (fun x hx=>by cases hx) (nilrd W) 32 h) _) fun W4 e4=>sg 5 kj <| sgN hK6 <| wp_seq_k fun K7 hK7=>sgB kj <| wp_block ?_
  refine wp_loop_rounds 1 ?_
  show zaF _ _ (Exit.then (zaG _ _ _ 0) _) _ _
  refine wp_seq_k fun K9 hK9=>sgB kj <| cond_false kj <| wp_exit <| hK7 _ _ <| sgC fun K11 hK11=>sv (.agg (ints .u8 (zab 32 0))) 27 (Qae 23 _ g5 23 _ _ (Qaa r5_3 e4) rfl kj kj (isz (n:=32) kj (izT (qZ (n:=32))))) ?_
  have r3_4:=(Qaa (Qaa r3_2 e3) e4)
  refine Qag g3 _ (ints .u8 (zab 32 0)) 23 r3_4 rfl kj (Qaf 23 _ _ g3 23 _ _ r3_4 rfl kj kj (isz (n:=32) kj (izT (qZ (n:=32)))) (eqsz (n:=32) (izT (qZ (n:=32))) (izT (qZ (n:=32)))) (Qat _ _)) fun W5 p5 r3_5=>sgN hK11 <| wp_ret ?_
  with_reducible repeat first | refine goR1 ?_ | refine goR2 ?_
  exact (show bodyPost _ _ _ .ret _ _ from ret1 (.agg (ints .u8 (zab 32 0))) rfl (QaJ g3 23 _ r3_5 kj kj (isz (n:=32) kj (izT (qZ (n:=32))))) ⟨congrArg (fun z=>Ending.returned (.agg (ints .u8 z))) (show _=Qb7 sec (strB s) by unfold Qb7; rw [if_neg oo]),(zbf p5 (zbg (zbg x2 e3) e4) (qT x1.size l3))⟩)
theorem QhW (sec : List Int) (s:ByteArray) (w:World)   (hsl:sec.length=32) (hsb:Qak sec):Calls Tryz.prog 35 #[.agg (ints .u8 sec),.string s] w (Ret w (.agg (ints .u8 (Qb7 sec (strB s))))):=by
  by_cases h:(strB s).length≤255
  · exact QjI sec s w hsl hsb h
  · exact QjH sec s w hsl hsb oo
end Sha
end
section
namespace Seat
open Go Go.RowKit
open Rely Auto Own
theorem quiet {P : Program} {f:FuncId} {args:Array Value} {w:World} {v:Value} (h:Calls P f args w fun e w'=>e=.returned v∧w=w'):Calls P f args w (Ret w v):=h.mono fun e w' ⟨h1,h2⟩=>⟨h1,h2▸zbc w⟩
def upn (x n:Int):Nat→Int
  | 0=>par x n
  | k+1=>par (upn x n k) n
def upL (x n:Int) (k:Nat):List Int:=(zaH k).map (upn x n)
theorem upL_len (x n:Int) (k:Nat):(upL x n k).length=k:=by unfold upL; rw [za1,List.length_range]
theorem QkZ (x n:Int) (k:Nat):upL x n (k+1)=upL x n k++[upn x n k]:=by unfold upL; rw [zaI,zaJ]; rfl
theorem QhU (x n:Int) (W:World):Calls Tryz.prog 48 #[.int .i64 x,.int .i64 n] W (Ret W (.int .i64 (par x n))):=quiet (rparent x n W)
theorem rpathC (x n:Int) (K:Nat) (hK:K≤6) (hneg:upn x n K<0) (hall:∀ i,i<K→0≤upn x n i) (w:World):Calls Tryz.prog 33 #[.int .i64 x,.int .i64 n] w (Qby w (OwnN .i64 3 w.heap.size (upL x n K))):=by
 refine enter 20 [(0,.int .i64 x),(1,.int .i64 n)] Tryz.func33 rfl rfl kj rfl <| sgB kj <| sgB kj <| wp_seq_k fun K3 hK3=>sgC fun K4 hK4=>sg 2 kj <| Qao (.int .i64 (upn x n 0)) 48 #[.int .i64 x,.int .i64 n] 9 rfl kj kj ((QhU x n) _) fun W1 e1=>?_
 have x1:=zbg (zbc w) e1
 refine sg 1 kj <| sgN hK4 <| wp_block <| Qa3 (fun (s1:Nat×Value)=>[(1,.int .i64 n),(5,s1.2),(6,.int .i64 (upn x n s1.1))]) (fun (s1:Nat×Value) W=>(s1.1≤K)∧(OwnN .i64 3 W1.heap.size (upL x n s1.1) s1.2 W)∧(Ext W1 W)∧(Ext w W)) (fun (s1:Nat×Value)=>K-s1.1) (0,(.slice none 0 0)) ⟨kj,kj,kj,trivial⟩ ⟨(zaf _),(Qb5 _ _ _ _),(zbc W1),x1⟩ fun s1 X1 V1 hI1=>?_
 obtain ⟨k,u⟩:=s1
 obtain ⟨hkk,hu,kk1,xx1⟩:=hI1
 replace hkk:k≤K:=hkk
 replace hu:OwnN .i64 3 W1.heap.size (upL x n k) u V1:=hu
 replace kk1:Ext W1 V1:=kk1
 replace xx1:Ext w V1:=xx1
 have e2:=kk1
 refine wp_seq_k fun K5 hK5=>sgB kj <| Qay (t:=decide ((upn x n k)≥0)) kj (fun c7=>?_) (fun c7=>?_)
 ·skip
  have h0:0≤upn x n k:=by have:=of_decide_eq_true c7; omega
  have hkK:k<K:=by
   rcases za3 k K with h | h
   ·exact h
   ·rw [show k=K by omega] at h0; omega
  refine wp_skip <| hK5 _ _ <| wp_seq_k fun K8 hK8=>wp_block <| Qaj <| sg 2 kj <| QaA (ints .i64 ([(upn x n k)])) 3 1 17 rfl kj kj fun g9 W3 l9 e3 r9_3=>?_
  have b9:=qT xx1.size l9
  refine QaH (k:=.i64) (T:=3) (xs:=upL x n k) (ys:=[upn x n k]) (V:=W1) 8 (.tmp 15) (.tmp 17) 67 rfl kj kj dd 18 rfl kj kj kj (hu.ext e3) (QaL (xs:=[(upn x n k)]) (n:=1) rfl r9_3 (Qaq r9_3) (show 1≤maxLen from by decide)) (by rw [upL_len]; show k+1≤1000000000; omega) (zbd e2 e3) fun u2 W4 f11 y4 l4=>?_
  refine sg 1 kj <| Qas <| hK8 _ _ <| Qaj <| sg 2 kj <| Qao (.int .i64 (upn x n (k+1))) 48 #[.int .i64 (upn x n k),.int .i64 n] 14 rfl kj kj ((QhU (upn x n k) n) _) fun W5 e5=>sg 1 kj <| Qas ?_
  with_reducible repeat first | refine goX1 ?_ | refine goX2 ?_ | refine goX3 ?_
  exact Qa1 ((k+1),u2) ⟨kj,kj,kj,trivial⟩ ⟨oo,(by rw [QkZ]; exact (f11.ext e5)),(zbd y4 e5),(zbg (zbi (zbg xx1 e3) l4 x1.size) e5)⟩ (by show K-(k+1)<K-k; omega)
 ·skip
  have h0:upn x n k<0:=by have:=of_decide_eq_false c7; omega
  have hkK:k=K:=by
   rcases za3 k K with h | h
   ·have:=hall k h; omega
   ·omega
  refine wp_exit <| hK3 _ _ <| sgB kj <| wp_ret ?_
  with_reducible repeat first | refine goR1 ?_ | refine goR2 ?_
  exact (show bodyPost _ _ _ .ret _ _ from ret1 (u) rfl (Qax kj) ⟨u,rfl,xx1,by rw [←hkK]; exact OwnN.base x1.size hu⟩)
end Seat
end
section
namespace Cn
open Go Go.RowKit
open Rely Auto Own Sha
open Go.Proofs.YtbonglpnkoegoaaGreatDoor
theorem QjV {T : TypeId} {base n c:Nat} {xs:List Int} {a:Option Addr} {W:World} (h:OwnN .i64 T base xs (.slice a xs.length c) W) (hn:n≤xs.length):OwnN .i64 T base (xs.take n) (.slice a n c) W:=by
  have hl:(xs.take n).length=n:=by rw [zan]; omega
  obtain ⟨⟨h1,h2⟩,hm⟩:=h
  rcases h2 with ⟨h2,h3⟩ | ⟨g,c',cur,e,q2,q3,q4,q5,q6,q7⟩
  · simp only [zap.injEq] at h2
    obtain ⟨rfl,h4,rfl⟩:=h2
    obtain rfl:=zaq.1 h4
    obtain rfl:n=0:=by simpa using hn
    exact Qb5 _ _ _ _
  · simp only [zap.injEq] at e
    obtain ⟨rfl,-,rfl⟩:=e
    refine Qgi hl q2 q3 oo oo q5 ?_
    have:cur.toList.take n=(cur.toList.take (xs.length*1)).take n:=by rw [zar]; congr 1; omega
    rw [this,q7,List.map_take]
theorem lftR (s : List Int) (W:World) (hl:s.length=32) (hb:Qak s):Calls Tryz.prog 35 #[.agg (ints .u8 s),.string Qg9] W (Ret W (.agg (ints .u8 (lftV s)))):=by
  unfold lftV; exact QhW s Qg9 W hl hb
theorem rgtR (s : List Int) (W:World) (hl:s.length=32) (hb:Qak s):Calls Tryz.prog 35 #[.agg (ints .u8 s),.string Qe2] W (Ret W (.agg (ints .u8 (rgtV s)))):=by
  unfold rgtV; exact QhW s Qe2 W hl hb
theorem QjL (x : Int) (hx:Seat.i64 x) (W:World):Calls Tryz.prog 34 #[.int .i64 x] W (Ret W (.tuple #[.int .i64 (Seat.kidL x),.int .i64 (Seat.kidR x)])):=Seat.quiet (Seat.rchildren x hx W)
theorem QmT {z j:Nat} (hz:z≤5) (hj:j<2^z)  : Seat.upn ((2*j:Nat):Int) ((2^z:Nat):Int) z<0:=by
  have h32:j<32:=qL hj (zaK dd hz:2^z≤2^5)
  exact (by decide +kernel:∀ (z:Fin 6) (j:Fin 32),j.val<2^z.val→Seat.upn ((2*j.val:Nat):Int) ((2^z.val:Nat):Int) z.val<0) ⟨z,by omega⟩ ⟨j,h32⟩ hj 
theorem QmS {z j:Nat} (hz:z≤5) (hj:j<2^z) (i:Nat) (hi:i<z):0≤Seat.upn ((2*j:Nat):Int) ((2^z:Nat):Int) i:=by
  have h32:j<32:=qL hj (zaK dd hz:2^z≤2^5)
  exact (by decide +kernel:∀ (z:Fin 6) (j:Fin 32),j.val<2^z.val→∀ i:Fin 5,i.val<z.val→0≤Seat.upn ((2*j.val:Nat):Int) ((2^z.val:Nat):Int) i.val) ⟨z,by omega⟩ ⟨j,h32⟩ hj ⟨i,by omega⟩ hi
theorem Qor {z j:Nat} (hz:z≤5) (hj:j<2^z) {i:Nat} (hi:i<z):0≤nth (Seat.upL ((2*j:Nat):Int) ((2^z:Nat):Int) z) i∧nth (Seat.upL ((2*j:Nat):Int) ((2^z:Nat):Int) z) i≤62:=by
  have h32:j<32:=qL hj (zaK dd hz:2^z≤2^5)
  exact (by decide +kernel:∀ (z:Fin 6) (j:Fin 32),j.val<2^z.val→∀ i:Fin 5,i.val<z.val→0≤nth (Seat.upL ((2*j.val:Nat):Int) ((2^z.val:Nat):Int) z.val) i.val∧nth (Seat.upL ((2*j.val:Nat):Int) ((2^z.val:Nat):Int) z.val) i.val≤62) ⟨z,by omega⟩ ⟨j,h32⟩ hj ⟨i,by omega⟩ hi
theorem QjQ {z j:Nat} (hz:z≤5) (hj:j<2^z) {i:Nat} (hi:i<z):Seat.i64 (nth (Seat.upL ((2*j:Nat):Int) ((2^z:Nat):Int) z) i):=by
  have h:=Qor hz hj hi
  unfold Seat.i64; omega
theorem Qmr {z j:Nat} (hz:z≤5) (hj:j<2^z) {r:Nat} (hr:r+1<z):(nth (Seat.upL ((2*j:Nat):Int) ((2^z:Nat):Int) z) r=Seat.kidL (nth (Seat.upL ((2*j:Nat):Int) ((2^z:Nat):Int) z) (r+1))↔j%2^(r+2)<2^(r+1)):=by
  have h32:j<32:=qL hj (zaK dd hz:2^z≤2^5)
  exact (by decide +kernel:∀ (z:Fin 6) (j:Fin 32),j.val<2^z.val→∀ r:Fin 4,r.val+1<z.val→(nth (Seat.upL ((2*j.val:Nat):Int) ((2^z.val:Nat):Int) z.val) r.val=Seat.kidL (nth (Seat.upL ((2*j.val:Nat):Int) ((2^z.val:Nat):Int) z.val) (r.val+1))↔j.val%2^(r.val+2)<2^(r.val+1))) ⟨z,by omega⟩ ⟨j,h32⟩ hj ⟨r,by omega⟩ hr
theorem QjR {z j:Nat} (hz:z≤5) (hj:j<2^z) (h0:0<z):(((2*j:Nat):Int)=Seat.kidL (nth (Seat.upL ((2*j:Nat):Int) ((2^z:Nat):Int) z) 0)↔j%2^1<2^0):=by
  have h32:j<32:=qL hj (zaK dd hz:2^z≤2^5)
  exact (by decide +kernel:∀ (z:Fin 6) (j:Fin 32),j.val<2^z.val→0<z.val→(((2*j.val:Nat):Int)=Seat.kidL (nth (Seat.upL ((2*j.val:Nat):Int) ((2^z.val:Nat):Int) z.val) 0)↔j.val%2^1<2^0)) ⟨z,by omega⟩ ⟨j,h32⟩ hj h0
theorem QoJ {j p:Nat} (hp:p≤4) (h:j%2^(p+1)<2^p) (s:List Int):Qbw s (p+1) (j%2^(p+1))=Qbw (lftV s) p (j%2^p):=by
  rw [Qbw,if_pos h]
  congr 1
  rcases (show p=0∨p=1∨p=2∨p=3∨p=4 by omega) with rfl | rfl | rfl | rfl | rfl <;> omega
theorem QoI {j p:Nat} (hp:p≤4) (h:2^p≤j%2^(p+1)) (s:List Int):Qbw s (p+1) (j%2^(p+1))=Qbw (rgtV s) p (j%2^p):=by
  rw [Qbw,if_neg oo]
  congr 1
  rcases (show p=0∨p=1∨p=2∨p=3∨p=4 by omega) with rfl | rfl | rfl | rfl | rfl <;> omega
theorem Qp9 (sec : List Int) (hsl:sec.length=32) (hsb:Qak sec) (z:Nat) (hz:z≤5) (j:Nat) (hj:j<2^z) (w:World):Calls Tryz.prog 19 #[.agg (ints .u8 sec),.int .i64 ((2^z:Nat):Int),.int .i64 (j:Int)] w (Ret w (.agg (ints .u8 (Qbw sec z j)))):=by
 have hj32:j<32:=qL hj (zaK dd hz:2^z≤2^5)
 refine enter 57 [(0,.agg (ints .u8 (sec))),(1,.int .i64 ((2^z:Nat):Int)),(2,.int .i64 (j:Int))] Tryz.func19 rfl rfl kj rfl <| sgC fun K1 hK1=>Qah (ints .u8 (sec)) 23 3 rfl kj kj fun g2 W1 l2 e1 r2_1=>?_
 have x1:=zbg (zbc w) e1
 have b2:=qT (zbc w).size l2
 refine Qah (ints .u8 (zab 32 0)) 23 6 rfl kj kj fun g3 W2 l3 e2 r3_2=>?_
 have x2:=zbg x1 e2
 refine sgN hK1 <| sgC fun K4 hK4=>sg 1 kj <| sv (.int .i64 ((2*j:Nat):Int)) 14 (Qac (u:=.int .i64 (zao.wrap (2*(j:Int)))) kj (congrArg (zam .i64) ((QbM _ oo).trans oo))) <| sg 1 kj <| Qau (fun v W'=>(OwnN .i64 3 W2.heap.size (Seat.upL ((2*j:Nat):Int) ((2^z:Nat):Int) z)) v W'∧Ext W2 W') 33 #[.int .i64 ((2*j:Nat):Int),.int .i64 ((2^z:Nat):Int)] 16 rfl kj kj ((Seat.rpathC _ _ z oo (QmT hz hj) (fun i hi=>QmS hz hj i hi) _).mono mo1) fun vv5 W3 hh5=>?_
 obtain ⟨hv5,e3⟩:=hh5
 have x3:=zbg x2 e3
 obtain ⟨a1,c1,rfl,-⟩:=id (zbh hv5)
 refine QaA (ints .i64 ([0])) 3 1 17 rfl kj kj fun g6 W4 l6 e4 r6_4=>?_
 have b6:=qT x3.size l6
 refine QaH (k:=.i64) (T:=3) (xs:=Seat.upL ((2*j:Nat):Int) ((2^z:Nat):Int) z) (ys:=[0]) (V:=W2) 8 (.tmp 16) (.tmp 17) 67 rfl kj kj dd 18 rfl kj kj kj (hv5.ext e4) (QaL (xs:=[0]) (n:=1) rfl r6_4 (Qaq r6_4) (show 1≤maxLen from by decide)) (by rw [Seat.upL_len]; show z+1≤1000000000; omega) (zbd (zbd (zbc W2) e3) e4) fun u2 W5 f8 y5 l5=>?_
 have x5:=zbi (zbg x3 e4) l5 x2.size
 obtain ⟨a2,c2,rfl,hcap2,-⟩:=id (zbh f8)
 have hl4:(Seat.upL ((2*j:Nat):Int) ((2^z:Nat):Int) z++[0]).length=z+1:=by rw [zah,Seat.upL_len]; rfl
 have htk:(Seat.upL ((2*j:Nat):Int) ((2^z:Nat):Int) z++[0]).take z=Seat.upL ((2*j:Nat):Int) ((2^z:Nat):Int) z:=List.take_left' (Seat.upL_len _ _ _)
 have hcap:z≤c2:=by omega
 have hpl:=QjV f8 (show z≤(Seat.upL ((2*j:Nat):Int) ((2^z:Nat):Int) z++[0]).length by omega)
 rw [htk] at hpl
 refine sg 1 kj <| sgN hK4 <| sgC fun K9 hK9=>sg 3 kj <| sv (.int .i64 ((z:Int))) 22 (Qac (u:=.int .i64 (zao.wrap ((((Seat.upL ((2*j:Nat):Int) ((2^z:Nat):Int) z++[0]).length:Nat):Int)-1))) kj (congrArg (zam .i64) ((QbM _ oo).trans oo))) <| sv (.slice a2 z c2) 23 (Qht (len:=(Seat.upL ((2*j:Nat):Int) ((2^z:Nat):Int) z++[0]).length) 67 _ _ z 3 rfl kj kj kj .i64 kj hcap) <| sg 1 kj <| sgN hK9 <| sgC fun K10 hK10=>?_
 have r2_2:=(Qaa r2_1 e2)
 refine sv (.agg (ints .u8 (sec))) 24 (Qae 23 _ g2 23 _ _ (Qbk l5 (Qaa (Qaa r2_2 e3) e4) (Qaq r2_2)) rfl kj kj (isz (n:=32) kj (izT hsl))) <| Qah (ints .u8 (zab 32 0)) 23 8 rfl kj kj fun g11 W6 l11 e6 r11_6=>?_
 have b11:=qT x5.size l11
 refine Qag g11 _ (ints .u8 (sec)) 23 r11_6 rfl kj (Qaf 23 _ _ g11 23 _ _ r11_6 rfl kj kj (isz (n:=32) kj (izT hsl)) (eqsz (n:=32) (izT (qZ (n:=32))) (izT hsl)) (Qat _ _)) fun W7 p7 r11_7=>sgN hK10 <| wp_seq_k fun K12 hK12=>sgC fun K13 hK13=>sg 2 kj <| sv (.int .i64 ((z:Int)-1)) 27 (Qac (u:=.int .i64 (zao.wrap ((z:Int)-1))) kj (congrArg (zam .i64) (QbM _ oo))) <| sg 1 kj <| sgN hK13 <| wp_block <| Qa3 (fun (s1:Nat×List Int)=>[(2,.int .i64 (j:Int)),(6,pp g3 0),(7,.slice a2 z c2),(8,pp g11 0),(9,.int .i64 ((s1.1:Int)-1))]) (fun (s1:Nat×List Int) W=>(s1.1≤z)∧(s1.2.length=32)∧(Qak s1.2)∧(Qbw sec z j=Qbw s1.2 s1.1 (j%2^s1.1))∧(W.heap[g11]? = some (.cells (ints .u8 (s1.2)) 23))∧(Qai [g11] W7 W)∧(Ext w W)) (fun (s1:Nat×List Int)=>s1.1) (z,sec) ⟨kj,kj,kj,kj,kj,trivial⟩ ⟨(qR _),hsl,hsb,(by rw [Nat.mod_eq_of_lt (show j<2^z from hj)]),r11_7,(Qai.refl [g11] W7),(zbf p7 (zbg x5 e6) b11)⟩ fun s1 X1 V1 hI1=>?_
 obtain ⟨q,s⟩:=s1
 obtain ⟨hq,hsl2,hsb2,hlf,q11_1,kk1,xx1⟩:=hI1
 replace hq:q≤z:=hq
 replace hsl2:s.length=32:=hsl2
 replace hsb2:Qak s:=hsb2
 replace hlf:Qbw sec z j=Qbw s q (j%2^q):=hlf
 replace q11_1:V1.heap[g11]? = some (.cells (ints .u8 (s)) 23):=q11_1
 replace kk1:Qai [g11] W7 V1:=kk1
 replace xx1:Ext w V1:=xx1
 have q8:=kk1
 refine wp_seq_k fun K14 hK14=>sgB kj <| Qay (t:=decide (((q:Int)-1)≥0)) kj (fun c16=>?_) (fun c16=>?_)
 ·skip
  obtain ⟨p,rfl⟩:∃ p,q=p+1:=⟨q-1,by have:=of_decide_eq_true c16; omega⟩
  rw [show (((p+1:Nat):Int)-1)=(p:Int) by omega]
  refine wp_skip <| hK14 _ _ <| wp_seq_k fun K17 hK17=>wp_block <| sgC fun K18 hK18=>sg 1 kj <| sv (.int .i64 ((2*j:Nat):Int)) 33 (Qac (u:=.int .i64 (zao.wrap (2*(j:Int)))) kj (congrArg (zam .i64) ((QbM _ oo).trans oo))) <| sg 1 kj <| sgN hK18 <| wp_seq_k fun K19 hK19=>?_
  refine wp_seq_k fun K20 hK20=>?_
  rcases (show p=0∨∃ r,p=r+1 by cases p with | zero=>exact .inl rfl | succ r=>exact .inr ⟨r,rfl⟩) with hr | ⟨r,hr⟩
  ·skip
   refine Qaj <| sg 1 kj <| sv (.bool false) 35 (Qac (u:=.bool (decide ((p:Int)>0))) kj (congrArg zag (decide_eq_false oo))) <| sgN hK20 <| cond_false kj <| wp_skip <| hK19 _ _ <| sgC fun K21 hK21=>sg 2 kj ?_
   have hnp_22:(Seat.upL ((2*j:Nat):Int) ((2^z:Nat):Int) z).length=z:=(Seat.upL_len _ _ _)
   obtain ⟨gcp_22,ocp_22,hap_22,hlp_22,hcp_22⟩:=QbU (zbh (Auto.OwnN.keepsL ((hpl.ext e6).puts p7 (nb_new hpl l11)) q8 (nb_cons (nb_new hpl l11) nb_nil))) (by rw [hnp_22]; omega)
   refine sv (pp gcp_22 (ocp_22+p)) 44 (QaP 67 _ _ .i64 p gcp_22 ocp_22 z c2 3 a2 _ hap_22 rfl rfl kj kj kj kj (zal (show p<z by omega) (rfl:z=z).symm)) <| sv (.int .i64 (nth (Seat.upL ((2*j:Nat):Int) ((2^z:Nat):Int) z) (p))) 45 (QaB 3 _ _ (.int .i64 (nth (Seat.upL ((2*j:Nat):Int) ((2^z:Nat):Int) z) (p))) (hcp_22 p (zal (show p<z by omega) hnp_22.symm)) rfl kj kj) <| Qao (.tuple #[.int .i64 (Seat.kidL (nth (Seat.upL ((2*j:Nat):Int) ((2^z:Nat):Int) z) (p))),.int .i64 (Seat.kidR (nth (Seat.upL ((2*j:Nat):Int) ((2^z:Nat):Int) z) (p)))]) 34 #[.int .i64 (nth (Seat.upL ((2*j:Nat):Int) ((2^z:Nat):Int) z) (p))] 46 rfl kj kj ((QjL _ (QjQ hz hj oo)) _) fun W9 e9=>?_
   have x9:=zbg xx1 e9
   refine sg 5 kj <| sgN hK21 <| wp_seq_k fun K26 hK26=>?_
   rcases za3 (j%2^(p+1)) (2^p) with hlr | hlr
   ·skip
    refine Qaj <| sg 2 kj <| sv (.bool true) 51 (Qac (u:=.bool ((((2*j:Nat):Int)==(Seat.kidL (nth (Seat.upL ((2*j:Nat):Int) ((2^z:Nat):Int) z) (p)))))) kj (congrArg zag (beq_iff_eq.2 (by subst hr; exact (QjR hz hj oo).2 hlr)))) ?_
    refine sgN hK26 <| cond_true kj <| Qaj ?_
    have r11_9:=(Qaa q11_1 e9)
    refine sv (.agg (ints .u8 (s))) 52 (Qae 23 _ g11 23 _ _ r11_9 rfl kj kj (isz (n:=32) kj (izT hsl2))) <| Qao (.agg (ints .u8 (lftV s))) 35 #[.agg (ints .u8 (s)),.string Qg9] 53 rfl kj kj ((fun W=>lftR s W hsl2 hsb2) _) fun W10 e10=>?_
    have x10:=zbg x9 e10
    have r11_10:=(Qaa r11_9 e10)
    refine Qag g11 _ (ints .u8 (lftV s)) 23 r11_10 rfl kj (Qaf 23 _ _ g11 23 _ _ r11_10 rfl kj kj (isz (n:=32) kj (izT (QcL _))) (eqsz (n:=32) (izT hsl2) (izT (QcL _))) (Qat _ _)) fun W11 p11 r11_11=>?_
    have x11:=zbf p11 x10 b11
    refine Qas <| hK17 _ _ <| Qaj <| sg 1 kj <| sv (.int .i64 ((p:Int)-1)) 31 (Qac (u:=.int .i64 (zao.wrap ((p:Int)-1))) kj (congrArg (zam .i64) (QbM _ oo))) <| sg 1 kj <| Qas ?_
    with_reducible repeat first | refine goX1 ?_ | refine goX2 ?_ | refine goX3 ?_
    exact Qa1 (p,(lftV s)) ⟨kj,kj,kj,kj,kj,trivial⟩ ⟨oo,(QcL _),(Qes _),(hlf.trans (QoJ oo hlr s)),r11_11,(Qai.puts (zbj (zbj q8 e9) e10) p11 (.inl (by simp))),x11⟩ oo
   ·skip
    refine Qaj <| sg 2 kj <| sv (.bool false) 51 (Qac (u:=.bool ((((2*j:Nat):Int)==(Seat.kidL (nth (Seat.upL ((2*j:Nat):Int) ((2^z:Nat):Int) z) (p)))))) kj (congrArg zag (beq_eq_false_iff_ne.2 (fun e=>absurd (by subst hr; exact (QjR hz hj oo).1 e) (Nat.not_lt.2 hlr))))) ?_
    refine sgN hK26 <| cond_false kj <| Qaj ?_
    have r11_9:=(Qaa q11_1 e9)
    refine sv (.agg (ints .u8 (s))) 54 (Qae 23 _ g11 23 _ _ r11_9 rfl kj kj (isz (n:=32) kj (izT hsl2))) <| Qao (.agg (ints .u8 (rgtV s))) 35 #[.agg (ints .u8 (s)),.string Qe2] 55 rfl kj kj ((fun W=>rgtR s W hsl2 hsb2) _) fun W10 e10=>?_
    have x10:=zbg x9 e10
    have r11_10:=(Qaa r11_9 e10)
    refine Qag g11 _ (ints .u8 (rgtV s)) 23 r11_10 rfl kj (Qaf 23 _ _ g11 23 _ _ r11_10 rfl kj kj (isz (n:=32) kj (izT (QcH _))) (eqsz (n:=32) (izT hsl2) (izT (QcH _))) (Qat _ _)) fun W11 p11 r11_11=>?_
    have x11:=zbf p11 x10 b11
    refine Qas <| hK17 _ _ <| Qaj <| sg 1 kj <| sv (.int .i64 ((p:Int)-1)) 31 (Qac (u:=.int .i64 (zao.wrap ((p:Int)-1))) kj (congrArg (zam .i64) (QbM _ oo))) <| sg 1 kj <| Qas ?_
    with_reducible repeat first | refine goX1 ?_ | refine goX2 ?_ | refine goX3 ?_
    exact Qa1 (p,(rgtV s)) ⟨kj,kj,kj,kj,kj,trivial⟩ ⟨oo,(QcH _),(Qeo _),(hlf.trans (QoI oo hlr s)),r11_11,(Qai.puts (zbj (zbj q8 e9) e10) p11 (.inl (by simp))),x11⟩ oo
  ·skip
   refine Qaj <| sg 1 kj <| sv (.bool true) 35 (Qac (u:=.bool (decide ((p:Int)>0))) kj (congrArg zag (decide_eq_true oo))) <| sgN hK20 <| cond_true kj <| Qaj <| sg 2 kj <| sv (.int .i64 ((r:Int))) 38 (Qac (u:=.int .i64 (zao.wrap ((p:Int)-1))) kj (congrArg (zam .i64) ((QbM _ oo).trans oo))) ?_
   have f30_8:=(Auto.OwnN.keepsL ((hpl.ext e6).puts p7 (nb_new hpl l11)) q8 (nb_cons (nb_new hpl l11) nb_nil))
   have hnp_27:(Seat.upL ((2*j:Nat):Int) ((2^z:Nat):Int) z).length=z:=(Seat.upL_len _ _ _)
   obtain ⟨gcp_27,ocp_27,hap_27,hlp_27,hcp_27⟩:=QbU (zbh f30_8) (by rw [hnp_27]; omega)
   refine sv (pp gcp_27 (ocp_27+r)) 39 (QaP 67 _ _ .i64 r gcp_27 ocp_27 z c2 3 a2 _ hap_27 rfl rfl kj kj kj kj (zal (show r<z by omega) (rfl:z=z).symm)) <| sv (.int .i64 (nth (Seat.upL ((2*j:Nat):Int) ((2^z:Nat):Int) z) (r))) 40 (QaB 3 _ _ (.int .i64 (nth (Seat.upL ((2*j:Nat):Int) ((2^z:Nat):Int) z) (r))) (hcp_27 r (zal (show r<z by omega) hnp_27.symm)) rfl kj kj) <| sg 1 kj <| Qas <| hK19 _ _ <| sgC fun K31 hK31=>sg 2 kj ?_
   have hnp_32:(Seat.upL ((2*j:Nat):Int) ((2^z:Nat):Int) z).length=z:=(Seat.upL_len _ _ _)
   obtain ⟨gcp_32,ocp_32,hap_32,hlp_32,hcp_32⟩:=QbU (zbh f30_8) (by rw [hnp_32]; omega)
   refine sv (pp gcp_32 (ocp_32+p)) 44 (QaP 67 _ _ .i64 p gcp_32 ocp_32 z c2 3 a2 _ hap_32 rfl rfl kj kj kj kj (zal (show p<z by omega) (rfl:z=z).symm)) <| sv (.int .i64 (nth (Seat.upL ((2*j:Nat):Int) ((2^z:Nat):Int) z) (p))) 45 (QaB 3 _ _ (.int .i64 (nth (Seat.upL ((2*j:Nat):Int) ((2^z:Nat):Int) z) (p))) (hcp_32 p (zal (show p<z by omega) hnp_32.symm)) rfl kj kj) <| Qao (.tuple #[.int .i64 (Seat.kidL (nth (Seat.upL ((2*j:Nat):Int) ((2^z:Nat):Int) z) (p))),.int .i64 (Seat.kidR (nth (Seat.upL ((2*j:Nat):Int) ((2^z:Nat):Int) z) (p)))]) 34 #[.int .i64 (nth (Seat.upL ((2*j:Nat):Int) ((2^z:Nat):Int) z) (p))] 46 rfl kj kj ((QjL _ (QjQ hz hj oo)) _) fun W9 e9=>?_
   have x9:=zbg xx1 e9
   refine sg 5 kj <| sgN hK31 <| wp_seq_k fun K33 hK33=>?_
   rcases za3 (j%2^(p+1)) (2^p) with hlr | hlr
   ·skip
    refine Qaj <| sg 2 kj <| sv (.bool true) 51 (Qac (u:=.bool (((nth (Seat.upL ((2*j:Nat):Int) ((2^z:Nat):Int) z) (r))==(Seat.kidL (nth (Seat.upL ((2*j:Nat):Int) ((2^z:Nat):Int) z) (p)))))) kj (congrArg zag (beq_iff_eq.2 (by subst hr; exact (Qmr hz hj oo).2 hlr)))) ?_
    refine sgN hK33 <| cond_true kj <| Qaj ?_
    have r11_9:=(Qaa q11_1 e9)
    refine sv (.agg (ints .u8 (s))) 52 (Qae 23 _ g11 23 _ _ r11_9 rfl kj kj (isz (n:=32) kj (izT hsl2))) <| Qao (.agg (ints .u8 (lftV s))) 35 #[.agg (ints .u8 (s)),.string Qg9] 53 rfl kj kj ((fun W=>lftR s W hsl2 hsb2) _) fun W10 e10=>?_
    have x10:=zbg x9 e10
    have r11_10:=(Qaa r11_9 e10)
    refine Qag g11 _ (ints .u8 (lftV s)) 23 r11_10 rfl kj (Qaf 23 _ _ g11 23 _ _ r11_10 rfl kj kj (isz (n:=32) kj (izT (QcL _))) (eqsz (n:=32) (izT hsl2) (izT (QcL _))) (Qat _ _)) fun W11 p11 r11_11=>?_
    have x11:=zbf p11 x10 b11
    refine Qas <| hK17 _ _ <| Qaj <| sg 1 kj <| sv (.int .i64 ((p:Int)-1)) 31 (Qac (u:=.int .i64 (zao.wrap ((p:Int)-1))) kj (congrArg (zam .i64) (QbM _ oo))) <| sg 1 kj <| Qas ?_
    with_reducible repeat first | refine goX1 ?_ | refine goX2 ?_ | refine goX3 ?_
    exact Qa1 (p,(lftV s)) ⟨kj,kj,kj,kj,kj,trivial⟩ ⟨oo,(QcL _),(Qes _),(hlf.trans (QoJ oo hlr s)),r11_11,(Qai.puts (zbj (zbj q8 e9) e10) p11 (.inl (by simp))),x11⟩ oo
   ·skip
    refine Qaj <| sg 2 kj <| sv (.bool false) 51 (Qac (u:=.bool (((nth (Seat.upL ((2*j:Nat):Int) ((2^z:Nat):Int) z) (r))==(Seat.kidL (nth (Seat.upL ((2*j:Nat):Int) ((2^z:Nat):Int) z) (p)))))) kj (congrArg zag (beq_eq_false_iff_ne.2 (fun e=>absurd (by subst hr; exact (Qmr hz hj oo).1 e) (Nat.not_lt.2 hlr))))) ?_
    refine sgN hK33 <| cond_false kj <| Qaj ?_
    have r11_9:=(Qaa q11_1 e9)
    refine sv (.agg (ints .u8 (s))) 54 (Qae 23 _ g11 23 _ _ r11_9 rfl kj kj (isz (n:=32) kj (izT hsl2))) <| Qao (.agg (ints .u8 (rgtV s))) 35 #[.agg (ints .u8 (s)),.string Qe2] 55 rfl kj kj ((fun W=>rgtR s W hsl2 hsb2) _) fun W10 e10=>?_
    have x10:=zbg x9 e10
    have r11_10:=(Qaa r11_9 e10)
    refine Qag g11 _ (ints .u8 (rgtV s)) 23 r11_10 rfl kj (Qaf 23 _ _ g11 23 _ _ r11_10 rfl kj kj (isz (n:=32) kj (izT (QcH _))) (eqsz (n:=32) (izT hsl2) (izT (QcH _))) (Qat _ _)) fun W11 p11 r11_11=>?_
    have x11:=zbf p11 x10 b11
    refine Qas <| hK17 _ _ <| Qaj <| sg 1 kj <| sv (.int .i64 ((p:Int)-1)) 31 (Qac (u:=.int .i64 (zao.wrap ((p:Int)-1))) kj (congrArg (zam .i64) (QbM _ oo))) <| sg 1 kj <| Qas ?_
    with_reducible repeat first | refine goX1 ?_ | refine goX2 ?_ | refine goX3 ?_
    exact Qa1 (p,(rgtV s)) ⟨kj,kj,kj,kj,kj,trivial⟩ ⟨oo,(QcH _),(Qeo _),(hlf.trans (QoI oo hlr s)),r11_11,(Qai.puts (zbj (zbj q8 e9) e10) p11 (.inl (by simp))),x11⟩ oo
 ·skip
  obtain rfl:q=0:=by have:=of_decide_eq_false c16; omega
  refine wp_exit <| hK12 _ _ <| sgC fun K34 hK34=>sv (.agg (ints .u8 (s))) 56 (Qae 23 _ g11 23 _ _ q11_1 rfl kj kj (isz (n:=32) kj (izT hsl2))) ?_
  have r3_5:=(Qbk l5 (Qaa (Qaa r3_2 e3) e4) (Qaq r3_2))
  have r3_8:=(Qai.row q8 (rpn p7 r3_5 e6 l11) (Qaw (Qad r3_5 l11) QaF))
  refine Qag g3 _ (ints .u8 (s)) 23 r3_8 rfl kj (Qaf 23 _ _ g3 23 _ _ r3_8 rfl kj kj (isz (n:=32) kj (izT hsl2)) (eqsz (n:=32) (izT (qZ (n:=32))) (izT hsl2)) (Qat _ _)) fun W9 p9 r3_9=>?_
  have x9:=zbf p9 xx1 (qT x1.size l3)
  refine sgN hK34 <| wp_ret ?_
  with_reducible repeat first | refine goR1 ?_ | refine goR2 ?_
  exact (show bodyPost _ _ _ .ret _ _ from ret1 (.agg (ints .u8 (s))) rfl (QaJ g3 23 _ r3_9 kj kj (isz (n:=32) kj (izT hsl2))) ⟨congrArg (fun z=>Ending.returned (.agg (ints .u8 z))) (show s=Qbw sec z j from hlf.symm),x9⟩)
end Cn
end
section
namespace Pk
open Go Go.RowKit
open Rely Auto Own Sha
open Cha
open Ae hiding run_storeQ
open Cn hiding nb_new run_extractT
set_option maxRecDepth 100000 in
theorem Qoo (g0 grp sec:List Int) (hg0:g0.length=32) (hgl:grp.length=32) (hsl:sec.length=32) (a_m:Option Addr) (n_m c_m:Nat) (num leaf lv:Int) (w:World) (hf:Seat.isTree lv=false)  : Calls Tryz.prog 8 #[.agg (cat [ints .u8 (g0),#[.slice a_m n_m c_m],#[.bool false]]),.agg (ints .u8 grp),.int .i64 num,.agg (ints .u8 sec),.int .i64 lv,.int .i64 leaf] w (Ret w (.tuple #[.agg (cat [ints .u8 (g0),#[.slice a_m n_m c_m],#[.bool false]]),.int .i64 3])):=by
  refine enter 114 [(0,.agg (cat [ints .u8 (g0),#[.slice a_m n_m c_m],#[.bool false]])),(1,.agg (ints .u8 (grp))),(2,.int .i64 num),(3,.agg (ints .u8 (sec))),(4,.int .i64 lv),(5,.int .i64 leaf)] Tryz.func8 rfl rfl kj rfl <| sgC fun K1 hK1=>Qah (cat [ints .u8 (g0),#[.slice a_m n_m c_m],#[.bool false]]) 33 6 rfl kj kj fun g2 W1 l2 e1 r2_1=>?_
  have x1:=zbg (zbc w) e1
  have b2:=qT (zbc w).size l2
  refine Qah (ints .u8 (grp)) 23 7 rfl kj kj fun g3 W2 l3 e2 r3_2=>?_
  have x2:=zbg x1 e2
  have b3:=qT x1.size l3
  refine Qah (ints .u8 (sec)) 23 9 rfl kj kj fun g4 W3 l4 e3 r4_3=>?_
  have x3:=zbg x2 e3
  have b4:=qT x2.size l4
  refine Qah (cat [ints .u8 (zab 32 0),#[.slice none 0 0],#[.bool false]]) 33 12 rfl kj kj fun g5 W4 l5 e4 r5_4=>sg 1 kj <| sgN hK1 <| wp_seq_k fun K6 hK6=>sgC fun K7 hK7=>sg 1 kj ?_
  have r2_4:=(Qaa (Qaa (Qaa r2_1 e2) e3) e4)
  refine sv (.bool false) 20 (Qab 4 _ g2 33 33 _ (.bool false) _ r2_4 rfl kj (Qap [ints .u8 (g0),#[.slice a_m n_m c_m]] [#[.bool false]] [] 33 (cz1 hg0) 0 _ rfl) kj) ?_
  refine sgN hK7 <| cond_false kj <| wp_skip <| hK6 _ _ <| wp_seq_k fun K8 hK8=>sgC fun K9 hK9=>sg 1 kj <| Qao (.bool false) 18 #[.int .i64 lv] 23 rfl kj kj ((Qe1 lv _ hf) _) fun W5 e5=>sg 10 kj <| sgN hK9 ?_
  refine cond_true kj <| sgC fun K10 hK10=>sv (.agg (cat [ints .u8 (g0),#[.slice a_m n_m c_m],#[.bool false]])) 34 (Qae 33 _ g2 33 _ _ (Qaa r2_4 e5) rfl kj kj (isz (n:=34) kj (cz1 hg0))) ?_
  have r5_5:=(Qaa r5_4 e5)
  refine Qag g5 _ (cat [ints .u8 (g0),#[.slice a_m n_m c_m],#[.bool false]]) 33 r5_5 rfl kj (Qaf 33 _ _ g5 33 _ _ r5_5 rfl kj kj (isz (n:=34) kj (cz1 hg0)) (eqsz (n:=34) czR (cz1 hg0)) (QaQ _ (by intro a ha; simp only [zaL,zaM,or_false] at ha; rcases ha with rfl | rfl | rfl; exact (Qat _ _); exact (Qaz _ rfl); exact (Qaz _ rfl)))) fun W6 p6 r5_6=>?_
  refine sg 1 kj <| sgN hK10 <| wp_ret ?_
  exact (show bodyPost _ _ _ .ret _ _ from ret2 (.agg (cat [ints .u8 (g0),#[.slice a_m n_m c_m],#[.bool false]])) (.int .i64 3) rfl (QaJ g5 33 _ r5_6 kj kj (isz (n:=34) kj (cz1 hg0))) (Qax kj) ⟨rfl,(zbf p6 (zbg (zbg x3 e4) e5) (qT x3.size l5))⟩)
set_option maxRecDepth 100000 in
theorem Qon (g0 grp sec:List Int) (hg0:g0.length=32) (hgl:grp.length=32) (hsl:sec.length=32) (a_m:Option Addr) (n_m c_m:Nat) (num leaf lv:Int) (w:World) (hf:Seat.isTree lv=true) (h1:leaf<0)  : Calls Tryz.prog 8 #[.agg (cat [ints .u8 (g0),#[.slice a_m n_m c_m],#[.bool false]]),.agg (ints .u8 grp),.int .i64 num,.agg (ints .u8 sec),.int .i64 lv,.int .i64 leaf] w (Ret w (.tuple #[.agg (cat [ints .u8 (g0),#[.slice a_m n_m c_m],#[.bool false]]),.int .i64 3])):=by
  have htr:lv=1∨lv=2∨lv=4∨lv=8∨lv=16∨lv=32:=Seat.isTree_cases hf
  refine enter 114 [(0,.agg (cat [ints .u8 (g0),#[.slice a_m n_m c_m],#[.bool false]])),(1,.agg (ints .u8 (grp))),(2,.int .i64 num),(3,.agg (ints .u8 (sec))),(4,.int .i64 lv),(5,.int .i64 leaf)] Tryz.func8 rfl rfl kj rfl <| sgC fun K1 hK1=>Qah (cat [ints .u8 (g0),#[.slice a_m n_m c_m],#[.bool false]]) 33 6 rfl kj kj fun g2 W1 l2 e1 r2_1=>?_
  have x1:=zbg (zbc w) e1
  have b2:=qT (zbc w).size l2
  refine Qah (ints .u8 (grp)) 23 7 rfl kj kj fun g3 W2 l3 e2 r3_2=>?_
  have x2:=zbg x1 e2
  have b3:=qT x1.size l3
  refine Qah (ints .u8 (sec)) 23 9 rfl kj kj fun g4 W3 l4 e3 r4_3=>?_
  have x3:=zbg x2 e3
  have b4:=qT x2.size l4
  refine Qah (cat [ints .u8 (zab 32 0),#[.slice none 0 0],#[.bool false]]) 33 12 rfl kj kj fun g5 W4 l5 e4 r5_4=>sg 1 kj <| sgN hK1 <| wp_seq_k fun K6 hK6=>sgC fun K7 hK7=>sg 1 kj ?_
  have r2_4:=(Qaa (Qaa (Qaa r2_1 e2) e3) e4)
  refine sv (.bool false) 20 (Qab 4 _ g2 33 33 _ (.bool false) _ r2_4 rfl kj (Qap [ints .u8 (g0),#[.slice a_m n_m c_m]] [#[.bool false]] [] 33 (cz1 hg0) 0 _ rfl) kj) ?_
  refine sgN hK7 <| cond_false kj <| wp_skip <| hK6 _ _ <| wp_seq_k fun K8 hK8=>sgC fun K9 hK9=>sg 1 kj <| Qao (.bool true) 18 #[.int .i64 lv] 23 rfl kj kj ((Qe1 lv _ hf) _) fun W5 e5=>sg 3 kj <| sv (.bool true) 27 (Qac (u:=.bool (decide (leaf<0))) kj (congrArg zag (decide_eq_true oo))) ?_
  refine sg 6 kj <| sgN hK9 <| cond_true kj <| sgC fun K10 hK10=>sv (.agg (cat [ints .u8 (g0),#[.slice a_m n_m c_m],#[.bool false]])) 34 (Qae 33 _ g2 33 _ _ (Qaa r2_4 e5) rfl kj kj (isz (n:=34) kj (cz1 hg0))) ?_
  have r5_5:=(Qaa r5_4 e5)
  refine Qag g5 _ (cat [ints .u8 (g0),#[.slice a_m n_m c_m],#[.bool false]]) 33 r5_5 rfl kj (Qaf 33 _ _ g5 33 _ _ r5_5 rfl kj kj (isz (n:=34) kj (cz1 hg0)) (eqsz (n:=34) czR (cz1 hg0)) (QaQ _ (by intro a ha; simp only [zaL,zaM,or_false] at ha; rcases ha with rfl | rfl | rfl; exact (Qat _ _); exact (Qaz _ rfl); exact (Qaz _ rfl)))) fun W6 p6 r5_6=>?_
  refine sg 1 kj <| sgN hK10 <| wp_ret ?_
  exact (show bodyPost _ _ _ .ret _ _ from ret2 (.agg (cat [ints .u8 (g0),#[.slice a_m n_m c_m],#[.bool false]])) (.int .i64 3) rfl (QaJ g5 33 _ r5_6 kj kj (isz (n:=34) kj (cz1 hg0))) (Qax kj) ⟨rfl,(zbf p6 (zbg (zbg x3 e4) e5) (qT x3.size l5))⟩)
set_option maxRecDepth 100000 in
theorem Qom (g0 grp sec:List Int) (hg0:g0.length=32) (hgl:grp.length=32) (hsl:sec.length=32) (a_m:Option Addr) (n_m c_m:Nat) (num leaf lv:Int) (w:World) (hf:Seat.isTree lv=true) (h1:0≤leaf) (h2:lv≤leaf)  : Calls Tryz.prog 8 #[.agg (cat [ints .u8 (g0),#[.slice a_m n_m c_m],#[.bool false]]),.agg (ints .u8 grp),.int .i64 num,.agg (ints .u8 sec),.int .i64 lv,.int .i64 leaf] w (Ret w (.tuple #[.agg (cat [ints .u8 (g0),#[.slice a_m n_m c_m],#[.bool false]]),.int .i64 3])):=by
  have htr:lv=1∨lv=2∨lv=4∨lv=8∨lv=16∨lv=32:=Seat.isTree_cases hf
  refine enter 114 [(0,.agg (cat [ints .u8 (g0),#[.slice a_m n_m c_m],#[.bool false]])),(1,.agg (ints .u8 (grp))),(2,.int .i64 num),(3,.agg (ints .u8 (sec))),(4,.int .i64 lv),(5,.int .i64 leaf)] Tryz.func8 rfl rfl kj rfl <| sgC fun K1 hK1=>Qah (cat [ints .u8 (g0),#[.slice a_m n_m c_m],#[.bool false]]) 33 6 rfl kj kj fun g2 W1 l2 e1 r2_1=>?_
  have x1:=zbg (zbc w) e1
  have b2:=qT (zbc w).size l2
  refine Qah (ints .u8 (grp)) 23 7 rfl kj kj fun g3 W2 l3 e2 r3_2=>?_
  have x2:=zbg x1 e2
  have b3:=qT x1.size l3
  refine Qah (ints .u8 (sec)) 23 9 rfl kj kj fun g4 W3 l4 e3 r4_3=>?_
  have x3:=zbg x2 e3
  have b4:=qT x2.size l4
  refine Qah (cat [ints .u8 (zab 32 0),#[.slice none 0 0],#[.bool false]]) 33 12 rfl kj kj fun g5 W4 l5 e4 r5_4=>sg 1 kj <| sgN hK1 <| wp_seq_k fun K6 hK6=>sgC fun K7 hK7=>sg 1 kj ?_
  have r2_4:=(Qaa (Qaa (Qaa r2_1 e2) e3) e4)
  refine sv (.bool false) 20 (Qab 4 _ g2 33 33 _ (.bool false) _ r2_4 rfl kj (Qap [ints .u8 (g0),#[.slice a_m n_m c_m]] [#[.bool false]] [] 33 (cz1 hg0) 0 _ rfl) kj) ?_
  refine sgN hK7 <| cond_false kj <| wp_skip <| hK6 _ _ <| wp_seq_k fun K8 hK8=>sgC fun K9 hK9=>sg 1 kj <| Qao (.bool true) 18 #[.int .i64 lv] 23 rfl kj kj ((Qe1 lv _ hf) _) fun W5 e5=>sg 3 kj <| sv (.bool false) 27 (Qac (u:=.bool (decide (leaf<0))) kj (congrArg zag (decide_eq_false oo))) ?_
  refine sg 4 kj <| sv (.bool true) 32 (Qac (u:=.bool (decide (leaf≥lv))) kj (congrArg zag (decide_eq_true oo))) <| sg 1 kj <| sgN hK9 <| cond_true kj <| sgC fun K10 hK10=>sv (.agg (cat [ints .u8 (g0),#[.slice a_m n_m c_m],#[.bool false]])) 34 (Qae 33 _ g2 33 _ _ (Qaa r2_4 e5) rfl kj kj (isz (n:=34) kj (cz1 hg0))) ?_
  have r5_5:=(Qaa r5_4 e5)
  refine Qag g5 _ (cat [ints .u8 (g0),#[.slice a_m n_m c_m],#[.bool false]]) 33 r5_5 rfl kj (Qaf 33 _ _ g5 33 _ _ r5_5 rfl kj kj (isz (n:=34) kj (cz1 hg0)) (eqsz (n:=34) czR (cz1 hg0)) (QaQ _ (by intro a ha; simp only [zaL,zaM,or_false] at ha; rcases ha with rfl | rfl | rfl; exact (Qat _ _); exact (Qaz _ rfl); exact (Qaz _ rfl)))) fun W6 p6 r5_6=>?_
  refine sg 1 kj <| sgN hK10 <| wp_ret ?_
  exact (show bodyPost _ _ _ .ret _ _ from ret2 (.agg (cat [ints .u8 (g0),#[.slice a_m n_m c_m],#[.bool false]])) (.int .i64 3) rfl (QaJ g5 33 _ r5_6 kj kj (isz (n:=34) kj (cz1 hg0))) (Qax kj) ⟨rfl,(zbf p6 (zbg (zbg x3 e4) e5) (qT x3.size l5))⟩)
set_option maxRecDepth 100000 in
theorem QmN (g0 grp sec:List Int) (hg0:g0.length=32) (hgl:grp.length=32) (hsl:sec.length=32) (a_m:Option Addr) (n_m c_m:Nat) (num leaf lv:Int) (w:World) (hf:Seat.isTree lv=true) (h1:0≤leaf) (h2:leaf<lv) (h3:num<0)  : Calls Tryz.prog 8 #[.agg (cat [ints .u8 (g0),#[.slice a_m n_m c_m],#[.bool false]]),.agg (ints .u8 grp),.int .i64 num,.agg (ints .u8 sec),.int .i64 lv,.int .i64 leaf] w (Ret w (.tuple #[.agg (cat [ints .u8 (g0),#[.slice a_m n_m c_m],#[.bool false]]),.int .i64 6])):=by
  have htr:lv=1∨lv=2∨lv=4∨lv=8∨lv=16∨lv=32:=Seat.isTree_cases hf
  refine enter 114 [(0,.agg (cat [ints .u8 (g0),#[.slice a_m n_m c_m],#[.bool false]])),(1,.agg (ints .u8 (grp))),(2,.int .i64 num),(3,.agg (ints .u8 (sec))),(4,.int .i64 lv),(5,.int .i64 leaf)] Tryz.func8 rfl rfl kj rfl <| sgC fun K1 hK1=>Qah (cat [ints .u8 (g0),#[.slice a_m n_m c_m],#[.bool false]]) 33 6 rfl kj kj fun g2 W1 l2 e1 r2_1=>?_
  have x1:=zbg (zbc w) e1
  have b2:=qT (zbc w).size l2
  refine Qah (ints .u8 (grp)) 23 7 rfl kj kj fun g3 W2 l3 e2 r3_2=>?_
  have x2:=zbg x1 e2
  have b3:=qT x1.size l3
  refine Qah (ints .u8 (sec)) 23 9 rfl kj kj fun g4 W3 l4 e3 r4_3=>?_
  have x3:=zbg x2 e3
  have b4:=qT x2.size l4
  refine Qah (cat [ints .u8 (zab 32 0),#[.slice none 0 0],#[.bool false]]) 33 12 rfl kj kj fun g5 W4 l5 e4 r5_4=>sg 1 kj <| sgN hK1 <| wp_seq_k fun K6 hK6=>sgC fun K7 hK7=>sg 1 kj ?_
  have r2_4:=(Qaa (Qaa (Qaa r2_1 e2) e3) e4)
  refine sv (.bool false) 20 (Qab 4 _ g2 33 33 _ (.bool false) _ r2_4 rfl kj (Qap [ints .u8 (g0),#[.slice a_m n_m c_m]] [#[.bool false]] [] 33 (cz1 hg0) 0 _ rfl) kj) ?_
  refine sgN hK7 <| cond_false kj <| wp_skip <| hK6 _ _ <| wp_seq_k fun K8 hK8=>sgC fun K9 hK9=>sg 1 kj <| Qao (.bool true) 18 #[.int .i64 lv] 23 rfl kj kj ((Qe1 lv _ hf) _) fun W5 e5=>sg 3 kj <| sv (.bool false) 27 (Qac (u:=.bool (decide (leaf<0))) kj (congrArg zag (decide_eq_false oo))) ?_
  refine sg 4 kj <| sv (.bool false) 32 (Qac (u:=.bool (decide (leaf≥lv))) kj (congrArg zag (decide_eq_false oo))) <| sg 1 kj <| sgN hK9 <| cond_false kj <| wp_skip <| hK8 _ _ <| sgC fun K10 hK10=>sg 1 kj ?_
  have r2_5:=(Qaa r2_4 e5)
  refine sv (.slice a_m n_m c_m) 36 (Qab 31 _ g2 32 33 _ (.slice a_m n_m c_m) _ r2_5 rfl kj (Qap [ints .u8 (g0)] [#[.slice a_m n_m c_m]] [#[.bool false]] 32 (izT hg0) 0 _ rfl) kj) <| sg 2 kj <| sgN hK10 <| wp_seq_k fun K11 hK11=>sgC fun K12 hK12=>sg 1 kj <| sv (.bool true) 39 (Qac (u:=.bool (decide (num<0))) kj (congrArg zag (decide_eq_true oo))) <| sg 25 kj <| sgN hK12 <| cond_true kj ?_
  refine sgC fun K13 hK13=>sv (.agg (cat [ints .u8 (g0),#[.slice a_m n_m c_m],#[.bool false]])) 65 (Qae 33 _ g2 33 _ _ r2_5 rfl kj kj (isz (n:=34) kj (cz1 hg0))) ?_
  have r5_5:=(Qaa r5_4 e5)
  refine Qag g5 _ (cat [ints .u8 (g0),#[.slice a_m n_m c_m],#[.bool false]]) 33 r5_5 rfl kj (Qaf 33 _ _ g5 33 _ _ r5_5 rfl kj kj (isz (n:=34) kj (cz1 hg0)) (eqsz (n:=34) czR (cz1 hg0)) (QaQ _ (by intro a ha; simp only [zaL,zaM,or_false] at ha; rcases ha with rfl | rfl | rfl; exact (Qat _ _); exact (Qaz _ rfl); exact (Qaz _ rfl)))) fun W6 p6 r5_6=>?_
  refine sg 1 kj <| sgN hK13 <| wp_ret ?_
  exact (show bodyPost _ _ _ .ret _ _ from ret2 (.agg (cat [ints .u8 (g0),#[.slice a_m n_m c_m],#[.bool false]])) (.int .i64 6) rfl (QaJ g5 33 _ r5_6 kj kj (isz (n:=34) kj (cz1 hg0))) (Qax kj) ⟨rfl,(zbf p6 (zbg (zbg x3 e4) e5) (qT x3.size l5))⟩)
set_option maxRecDepth 100000 in
theorem QmM (g0 grp sec:List Int) (hg0:g0.length=32) (hgl:grp.length=32) (hsl:sec.length=32) (a_m:Option Addr) (n_m c_m:Nat) (num leaf lv:Int) (w:World) (hf:Seat.isTree lv=true) (h1:0≤leaf) (h2:leaf<lv) (h3:0≤num) (h4:4294967295<num)  : Calls Tryz.prog 8 #[.agg (cat [ints .u8 (g0),#[.slice a_m n_m c_m],#[.bool false]]),.agg (ints .u8 grp),.int .i64 num,.agg (ints .u8 sec),.int .i64 lv,.int .i64 leaf] w (Ret w (.tuple #[.agg (cat [ints .u8 (g0),#[.slice a_m n_m c_m],#[.bool false]]),.int .i64 6])):=by
  have htr:lv=1∨lv=2∨lv=4∨lv=8∨lv=16∨lv=32:=Seat.isTree_cases hf
  refine enter 114 [(0,.agg (cat [ints .u8 (g0),#[.slice a_m n_m c_m],#[.bool false]])),(1,.agg (ints .u8 (grp))),(2,.int .i64 num),(3,.agg (ints .u8 (sec))),(4,.int .i64 lv),(5,.int .i64 leaf)] Tryz.func8 rfl rfl kj rfl <| sgC fun K1 hK1=>Qah (cat [ints .u8 (g0),#[.slice a_m n_m c_m],#[.bool false]]) 33 6 rfl kj kj fun g2 W1 l2 e1 r2_1=>?_
  have x1:=zbg (zbc w) e1
  have b2:=qT (zbc w).size l2
  refine Qah (ints .u8 (grp)) 23 7 rfl kj kj fun g3 W2 l3 e2 r3_2=>?_
  have x2:=zbg x1 e2
  have b3:=qT x1.size l3
  refine Qah (ints .u8 (sec)) 23 9 rfl kj kj fun g4 W3 l4 e3 r4_3=>?_
  have x3:=zbg x2 e3
  have b4:=qT x2.size l4
  refine Qah (cat [ints .u8 (zab 32 0),#[.slice none 0 0],#[.bool false]]) 33 12 rfl kj kj fun g5 W4 l5 e4 r5_4=>sg 1 kj <| sgN hK1 <| wp_seq_k fun K6 hK6=>sgC fun K7 hK7=>sg 1 kj ?_
  have r2_4:=(Qaa (Qaa (Qaa r2_1 e2) e3) e4)
  refine sv (.bool false) 20 (Qab 4 _ g2 33 33 _ (.bool false) _ r2_4 rfl kj (Qap [ints .u8 (g0),#[.slice a_m n_m c_m]] [#[.bool false]] [] 33 (cz1 hg0) 0 _ rfl) kj) ?_
  refine sgN hK7 <| cond_false kj <| wp_skip <| hK6 _ _ <| wp_seq_k fun K8 hK8=>sgC fun K9 hK9=>sg 1 kj <| Qao (.bool true) 18 #[.int .i64 lv] 23 rfl kj kj ((Qe1 lv _ hf) _) fun W5 e5=>sg 3 kj <| sv (.bool false) 27 (Qac (u:=.bool (decide (leaf<0))) kj (congrArg zag (decide_eq_false oo))) ?_
  refine sg 4 kj <| sv (.bool false) 32 (Qac (u:=.bool (decide (leaf≥lv))) kj (congrArg zag (decide_eq_false oo))) <| sg 1 kj <| sgN hK9 <| cond_false kj <| wp_skip <| hK8 _ _ <| sgC fun K10 hK10=>sg 1 kj ?_
  have r2_5:=(Qaa r2_4 e5)
  refine sv (.slice a_m n_m c_m) 36 (Qab 31 _ g2 32 33 _ (.slice a_m n_m c_m) _ r2_5 rfl kj (Qap [ints .u8 (g0)] [#[.slice a_m n_m c_m]] [#[.bool false]] 32 (izT hg0) 0 _ rfl) kj) <| sg 2 kj <| sgN hK10 <| wp_seq_k fun K11 hK11=>sgC fun K12 hK12=>sg 1 kj <| sv (.bool false) 39 (Qac (u:=.bool (decide (num<0))) kj (congrArg zag (decide_eq_false oo))) <| sg 2 kj <| sv (.bool true) 42 (Qac (u:=.bool (decide (num>4294967295))) kj (congrArg zag (decide_eq_true oo))) <| sg 22 kj ?_
  refine sgN hK12 <| cond_true kj <| sgC fun K13 hK13=>sv (.agg (cat [ints .u8 (g0),#[.slice a_m n_m c_m],#[.bool false]])) 65 (Qae 33 _ g2 33 _ _ r2_5 rfl kj kj (isz (n:=34) kj (cz1 hg0))) ?_
  have r5_5:=(Qaa r5_4 e5)
  refine Qag g5 _ (cat [ints .u8 (g0),#[.slice a_m n_m c_m],#[.bool false]]) 33 r5_5 rfl kj (Qaf 33 _ _ g5 33 _ _ r5_5 rfl kj kj (isz (n:=34) kj (cz1 hg0)) (eqsz (n:=34) czR (cz1 hg0)) (QaQ _ (by intro a ha; simp only [zaL,zaM,or_false] at ha; rcases ha with rfl | rfl | rfl; exact (Qat _ _); exact (Qaz _ rfl); exact (Qaz _ rfl)))) fun W6 p6 r5_6=>?_
  refine sg 1 kj <| sgN hK13 <| wp_ret ?_
  exact (show bodyPost _ _ _ .ret _ _ from ret2 (.agg (cat [ints .u8 (g0),#[.slice a_m n_m c_m],#[.bool false]])) (.int .i64 6) rfl (QaJ g5 33 _ r5_6 kj kj (isz (n:=34) kj (cz1 hg0))) (Qax kj) ⟨rfl,(zbf p6 (zbg (zbg x3 e4) e5) (qT x3.size l5))⟩)
set_option maxRecDepth 100000 in
theorem QmL (g0 grp sec:List Int) (hg0:g0.length=32) (hgl:grp.length=32) (hsl:sec.length=32) (gq cq:Nat) (vl:Value) (tq:Array Value) (num leaf lv:Int) (w:World) (hf:Seat.isTree lv=true) (h1:0≤leaf) (h2:leaf<lv) (h3:0≤num) (h4:num≤4294967295) (hq1:w.heap[gq]? = some (.cells (cat [#[.int .i64 num],#[.int .i64 leaf],#[vl],tq]) 64)) (hgg:grp=g0):Calls Tryz.prog 8 #[.agg (cat [ints .u8 (g0),#[.slice (some ⟨gq,0,none⟩) 1 cq],#[.bool false]]),.agg (ints .u8 grp),.int .i64 num,.agg (ints .u8 sec),.int .i64 lv,.int .i64 leaf] w (Ret w (.tuple #[.agg (cat [ints .u8 (g0),#[.slice (some ⟨gq,0,none⟩) 1 cq],#[.bool false]]),.int .i64 6])):=by
  have htr:lv=1∨lv=2∨lv=4∨lv=8∨lv=16∨lv=32:=Seat.isTree_cases hf
  refine enter 114 [(0,.agg (cat [ints .u8 (g0),#[.slice (some ⟨gq,0,none⟩) 1 cq],#[.bool false]])),(1,.agg (ints .u8 (grp))),(2,.int .i64 num),(3,.agg (ints .u8 (sec))),(4,.int .i64 lv),(5,.int .i64 leaf)] Tryz.func8 rfl rfl kj rfl <| sgC fun K2 hK2=>Qah (cat [ints .u8 (g0),#[.slice (some ⟨gq,0,none⟩) 1 cq],#[.bool false]]) 33 6 rfl kj kj fun g3 W1 l3 e1 r3_1=>?_
  have x1:=zbg (zbc w) e1
  have b3:=qT (zbc w).size l3
  refine Qah (ints .u8 (grp)) 23 7 rfl kj kj fun g4 W2 l4 e2 r4_2=>?_
  have x2:=zbg x1 e2
  have b4:=qT x1.size l4
  refine Qah (ints .u8 (sec)) 23 9 rfl kj kj fun g5 W3 l5 e3 r5_3=>?_
  have x3:=zbg x2 e3
  have b5:=qT x2.size l5
  refine Qah (cat [ints .u8 (zab 32 0),#[.slice none 0 0],#[.bool false]]) 33 12 rfl kj kj fun g6 W4 l6 e4 r6_4=>sg 1 kj <| sgN hK2 <| wp_seq_k fun K7 hK7=>sgC fun K8 hK8=>sg 1 kj ?_
  have r3_4:=(Qaa (Qaa (Qaa r3_1 e2) e3) e4)
  refine sv (.bool false) 20 (Qab 4 _ g3 33 33 _ (.bool false) _ r3_4 rfl kj (Qap [ints .u8 (g0),#[.slice (some ⟨gq,0,none⟩) 1 cq]] [#[.bool false]] [] 33 (cz1 hg0) 0 _ rfl) kj) ?_
  refine sgN hK8 <| cond_false kj <| wp_skip <| hK7 _ _ <| wp_seq_k fun K9 hK9=>sgC fun K10 hK10=>sg 1 kj <| Qao (.bool true) 18 #[.int .i64 lv] 23 rfl kj kj ((Qe1 lv _ hf) _) fun W5 e5=>sg 3 kj <| sv (.bool false) 27 (Qac (u:=.bool (decide (leaf<0))) kj (congrArg zag (decide_eq_false oo))) ?_
  refine sg 4 kj <| sv (.bool false) 32 (Qac (u:=.bool (decide (leaf≥lv))) kj (congrArg zag (decide_eq_false oo))) <| sg 1 kj <| sgN hK10 <| cond_false kj <| wp_skip <| hK9 _ _ <| sgC fun K11 hK11=>sg 1 kj ?_
  have r3_5:=(Qaa r3_4 e5)
  refine sv (.slice (some ⟨gq,0,none⟩) 1 cq) 36 (Qab 31 _ g3 32 33 _ (.slice (some ⟨gq,0,none⟩) 1 cq) _ r3_5 rfl kj (Qap [ints .u8 (g0)] [#[.slice (some ⟨gq,0,none⟩) 1 cq]] [#[.bool false]] 32 (izT hg0) 0 _ rfl) kj) <| sg 2 kj <| sgN hK11 <| wp_seq_k fun K12 hK12=>sgC fun K13 hK13=>sg 1 kj <| sv (.bool false) 39 (Qac (u:=.bool (decide (num<0))) kj (congrArg zag (decide_eq_false oo))) <| sg 2 kj <| sv (.bool false) 42 (Qac (u:=.bool (decide (num>4294967295))) kj (congrArg zag (decide_eq_false oo))) <| sg 5 kj ?_
  refine sv (.agg (ints .u8 (grp))) 48 (Qae 23 _ g4 23 _ _ (Qaa (Qaa (Qaa r4_2 e3) e4) e5) rfl kj kj (isz (n:=32) kj (izT hgl))) <| sg 1 kj <| sv (.agg (ints .u8 (g0))) 50 (Qa4 23 _ g3 0 33 _ _ _ r3_5 rfl kj (Qap [] [ints .u8 (g0)] [#[.slice (some ⟨gq,0,none⟩) 1 cq],#[.bool false]] 0 kj) kj (isz (n:=32) kj (izT hg0))) <| sv (.bool false) 51 (Qfb 23 _ _ _ _ _ (.bool false) rfl kj kj kj (QgS 23 (e:=5) (k:=.u8) (grp) (g0) (decide_eq_true hgg) hgl hg0 kj kj kj _)) <| sg 3 kj <| sv (.slice (some ⟨gq,0,none⟩) 1 cq) 55 (Qab 31 _ g3 32 33 _ (.slice (some ⟨gq,0,none⟩) 1 cq) _ r3_5 rfl kj (Qap [ints .u8 (g0)] [#[.slice (some ⟨gq,0,none⟩) 1 cq]] [#[.bool false]] 32 (izT hg0) 0 _ rfl) kj) <| sg 4 kj <| sv (.int .i64 num) 60 (Qab 3 _ gq 0 64 _ (.int .i64 num) _ (Qaa (Qaa (Qaa (Qaa (Qaa hq1 e1) e2) e3) e4) e5) rfl kj (Qap [] [#[.int .i64 num]] [#[.int .i64 leaf],#[vl],tq] 0 kj 0 _ rfl) kj) <| sv (.bool true) 61 (Qac (u:=.bool (decide (num≤num))) kj (congrArg zag (decide_eq_true oo))) <| sg 3 kj ?_
  refine sgN hK13 <| cond_true kj <| sgC fun K14 hK14=>sv (.agg (cat [ints .u8 (g0),#[.slice (some ⟨gq,0,none⟩) 1 cq],#[.bool false]])) 65 (Qae 33 _ g3 33 _ _ r3_5 rfl kj kj (isz (n:=34) kj (cz1 hg0))) ?_
  have r6_5:=(Qaa r6_4 e5)
  refine Qag g6 _ (cat [ints .u8 (g0),#[.slice (some ⟨gq,0,none⟩) 1 cq],#[.bool false]]) 33 r6_5 rfl kj (Qaf 33 _ _ g6 33 _ _ r6_5 rfl kj kj (isz (n:=34) kj (cz1 hg0)) (eqsz (n:=34) czR (cz1 hg0)) (QaQ _ (by intro a ha; simp only [zaL,zaM,or_false] at ha; rcases ha with rfl | rfl | rfl; exact (Qat _ _); exact (Qaz _ rfl); exact (Qaz _ rfl)))) fun W6 p6 r6_6=>?_
  refine sg 1 kj <| sgN hK14 <| wp_ret ?_
  exact (show bodyPost _ _ _ .ret _ _ from ret2 (.agg (cat [ints .u8 (g0),#[.slice (some ⟨gq,0,none⟩) 1 cq],#[.bool false]])) (.int .i64 6) rfl (QaJ g6 33 _ r6_6 kj kj (isz (n:=34) kj (cz1 hg0))) (Qax kj) ⟨rfl,(zbf p6 (zbg (zbg x3 e4) e5) (qT x3.size l6))⟩)
set_option maxRecDepth 100000 in
theorem QmK (g0 grp sec:List Int) (hg0:g0.length=32) (hgl:grp.length=32) (hsl:sec.length=32) (gq cq:Nat) (vl:Value) (tq:Array Value) (num leaf lv:Int) (w:World) (hf:Seat.isTree lv=true) (h1:0≤leaf) (h2:leaf<lv) (h3:0≤num) (h4:num≤4294967295) (hq1:w.heap[gq]? = some (.cells (cat [#[.int .i64 num],#[.int .i64 leaf],#[vl],tq]) 64)) (hgg:grp≠g0):Calls Tryz.prog 8 #[.agg (cat [ints .u8 (g0),#[.slice (some ⟨gq,0,none⟩) 1 cq],#[.bool false]]),.agg (ints .u8 grp),.int .i64 num,.agg (ints .u8 sec),.int .i64 lv,.int .i64 leaf] w (Ret w (.tuple #[.agg (cat [ints .u8 (g0),#[.slice (some ⟨gq,0,none⟩) 1 cq],#[.bool false]]),.int .i64 6])):=by
  have htr:lv=1∨lv=2∨lv=4∨lv=8∨lv=16∨lv=32:=Seat.isTree_cases hf
  refine enter 114 [(0,.agg (cat [ints .u8 (g0),#[.slice (some ⟨gq,0,none⟩) 1 cq],#[.bool false]])),(1,.agg (ints .u8 (grp))),(2,.int .i64 num),(3,.agg (ints .u8 (sec))),(4,.int .i64 lv),(5,.int .i64 leaf)] Tryz.func8 rfl rfl kj rfl <| sgC fun K2 hK2=>Qah (cat [ints .u8 (g0),#[.slice (some ⟨gq,0,none⟩) 1 cq],#[.bool false]]) 33 6 rfl kj kj fun g3 W1 l3 e1 r3_1=>?_
  have x1:=zbg (zbc w) e1
  have b3:=qT (zbc w).size l3
  refine Qah (ints .u8 (grp)) 23 7 rfl kj kj fun g4 W2 l4 e2 r4_2=>?_
  have x2:=zbg x1 e2
  have b4:=qT x1.size l4
  refine Qah (ints .u8 (sec)) 23 9 rfl kj kj fun g5 W3 l5 e3 r5_3=>?_
  have x3:=zbg x2 e3
  have b5:=qT x2.size l5
  refine Qah (cat [ints .u8 (zab 32 0),#[.slice none 0 0],#[.bool false]]) 33 12 rfl kj kj fun g6 W4 l6 e4 r6_4=>sg 1 kj <| sgN hK2 <| wp_seq_k fun K7 hK7=>sgC fun K8 hK8=>sg 1 kj ?_
  have r3_4:=(Qaa (Qaa (Qaa r3_1 e2) e3) e4)
  refine sv (.bool false) 20 (Qab 4 _ g3 33 33 _ (.bool false) _ r3_4 rfl kj (Qap [ints .u8 (g0),#[.slice (some ⟨gq,0,none⟩) 1 cq]] [#[.bool false]] [] 33 (cz1 hg0) 0 _ rfl) kj) ?_
  refine sgN hK8 <| cond_false kj <| wp_skip <| hK7 _ _ <| wp_seq_k fun K9 hK9=>sgC fun K10 hK10=>sg 1 kj <| Qao (.bool true) 18 #[.int .i64 lv] 23 rfl kj kj ((Qe1 lv _ hf) _) fun W5 e5=>sg 3 kj <| sv (.bool false) 27 (Qac (u:=.bool (decide (leaf<0))) kj (congrArg zag (decide_eq_false oo))) ?_
  refine sg 4 kj <| sv (.bool false) 32 (Qac (u:=.bool (decide (leaf≥lv))) kj (congrArg zag (decide_eq_false oo))) <| sg 1 kj <| sgN hK10 <| cond_false kj <| wp_skip <| hK9 _ _ <| sgC fun K11 hK11=>sg 1 kj ?_
  have r3_5:=(Qaa r3_4 e5)
  refine sv (.slice (some ⟨gq,0,none⟩) 1 cq) 36 (Qab 31 _ g3 32 33 _ (.slice (some ⟨gq,0,none⟩) 1 cq) _ r3_5 rfl kj (Qap [ints .u8 (g0)] [#[.slice (some ⟨gq,0,none⟩) 1 cq]] [#[.bool false]] 32 (izT hg0) 0 _ rfl) kj) <| sg 2 kj <| sgN hK11 <| wp_seq_k fun K12 hK12=>sgC fun K13 hK13=>sg 1 kj <| sv (.bool false) 39 (Qac (u:=.bool (decide (num<0))) kj (congrArg zag (decide_eq_false oo))) <| sg 2 kj <| sv (.bool false) 42 (Qac (u:=.bool (decide (num>4294967295))) kj (congrArg zag (decide_eq_false oo))) <| sg 5 kj ?_
  refine sv (.agg (ints .u8 (grp))) 48 (Qae 23 _ g4 23 _ _ (Qaa (Qaa (Qaa r4_2 e3) e4) e5) rfl kj kj (isz (n:=32) kj (izT hgl))) <| sg 1 kj <| sv (.agg (ints .u8 (g0))) 50 (Qa4 23 _ g3 0 33 _ _ _ r3_5 rfl kj (Qap [] [ints .u8 (g0)] [#[.slice (some ⟨gq,0,none⟩) 1 cq],#[.bool false]] 0 kj) kj (isz (n:=32) kj (izT hg0))) <| sv (.bool true) 51 (Qfb 23 _ _ _ _ _ (.bool true) rfl kj kj kj (QgS 23 (e:=5) (k:=.u8) (grp) (g0) (decide_eq_false hgg) hgl hg0 kj kj kj _)) <| sg 13 kj <| sgN hK13 <| cond_true kj <| sgC fun K14 hK14=>sv (.agg (cat [ints .u8 (g0),#[.slice (some ⟨gq,0,none⟩) 1 cq],#[.bool false]])) 65 (Qae 33 _ g3 33 _ _ r3_5 rfl kj kj (isz (n:=34) kj (cz1 hg0))) ?_
  have r6_5:=(Qaa r6_4 e5)
  refine Qag g6 _ (cat [ints .u8 (g0),#[.slice (some ⟨gq,0,none⟩) 1 cq],#[.bool false]]) 33 r6_5 rfl kj (Qaf 33 _ _ g6 33 _ _ r6_5 rfl kj kj (isz (n:=34) kj (cz1 hg0)) (eqsz (n:=34) czR (cz1 hg0)) (QaQ _ (by intro a ha; simp only [zaL,zaM,or_false] at ha; rcases ha with rfl | rfl | rfl; exact (Qat _ _); exact (Qaz _ rfl); exact (Qaz _ rfl)))) fun W6 p6 r6_6=>?_
  refine sg 1 kj <| sgN hK14 <| wp_ret ?_
  exact (show bodyPost _ _ _ .ret _ _ from ret2 (.agg (cat [ints .u8 (g0),#[.slice (some ⟨gq,0,none⟩) 1 cq],#[.bool false]])) (.int .i64 6) rfl (QaJ g6 33 _ r6_6 kj kj (isz (n:=34) kj (cz1 hg0))) (Qax kj) ⟨rfl,(zbf p6 (zbg (zbg x3 e4) e5) (qT x3.size l6))⟩)
end Pk
end
section
namespace Pk
open Go Go.RowKit
open Rely Auto Own Sha
open Cha
open Ae hiding run_storeQ
open Cn hiding nb_new run_extractT
open Wk
def lnA (l : List Int):Array Value:=cat [ints .u8 l,#[.int .i64 0],#[.slice none 0 0],#[.slice none 0 0],#[.int .i64 0]]
def lnC (l : List Int):List Value:=(lnA l).toList
theorem QcY : ∀ {sec:List Int} (h:sec.length=32) (k j:Nat),(Qbw sec k j).length=32
  | _,h,0,_=>h
  | sec,h,k+1,j=>by
    rw [Qbw]
    split
    · exact QcY (QcL _) k _
    · exact QcY (QcH _) k _
theorem Qio (l : List Int) (h:l.length=32):(lnA l).size=36:=by unfold lnA; rw [Qal,Qal,Qal,Qal,Qal]; simp only [qS,cat,Qbq,h]; rfl
theorem Qkm (l : List Int) (h:l.length=32):(lnC l).length=36:=by unfold lnC; rw [za2]; exact Qio l h
theorem Qns (l : List Int):∀ u∈lnC l,u.oneCell'=true:=by
  intro u hu
  unfold lnC lnA at hu
  simp only [cat,zaN,ints,zaO,zaP,zaL,zaM,or_false] at hu
  rcases hu with ⟨y,-,rfl⟩ | rfl | rfl | rfl | rfl <;> rfl
structure De where
  num:Int
  leaf:Int
  ls:Value
def deA (e : De):Array Value:=cat [#[.int .i64 e.num],#[.int .i64 e.leaf],#[e.ls]]
def deC (e : De):List Value:=(deA e).toList
theorem QkG (e : De):(deC e).length=3:=by unfold deC deA; simp [cat]
theorem Qn5 (e : De) (h:e.ls.oneCell'=true):∀ u∈deC e,u.oneCell'=true:=by
  intro u hu
  unfold deC deA at hu
  simp only [cat,zaN,zaO,zaL,zaM,or_false] at hu
  rcases hu with rfl | rfl | rfl
  · rfl
  · rfl
  · exact h
set_option maxRecDepth 100000 in
theorem rin (grp sec:List Int) (hgl:grp.length=32) (hsl:sec.length=32) (hsb:Qak sec) (k:Nat) (hk:k≤5) (num leaf:Int) (hf:Seat.isTree ((2^k:Nat):Int)=true) (h1:0≤leaf) (h2:leaf<((2^k:Nat):Int)) (h3:0≤num) (h4:num≤4294967295) (w:World):Calls Tryz.prog 8 #[.agg (cat [ints .u8 (zab 32 0),#[.slice none 0 0],#[.bool false]]),.agg (ints .u8 grp),.int .i64 num,.agg (ints .u8 sec),.int .i64 ((2^k:Nat):Int),.int .i64 leaf] w (Qby w (fun v W=>∃ (u vs:Value) (ls:List (List Int)),v=.tuple #[.agg (cat [ints .u8 grp,#[u],#[.bool false]]),.int .i64 0]∧OwG 64 3 w.heap.size deC [⟨num,leaf,vs⟩] u W∧OwG 69 36 w.heap.size lnC ls vs W∧ls.length=2^k∧∀ l∈ls,l.length=32)):=by
 have h32:2^k≤2^5:=zaK dd hk
 refine enter 114 [(0,.agg (cat [ints .u8 (zab 32 0),#[.slice none 0 0],#[.bool false]])),(1,.agg (ints .u8 (grp))),(2,.int .i64 num),(3,.agg (ints .u8 (sec))),(4,.int .i64 ((2^k:Nat):Int)),(5,.int .i64 leaf)] Tryz.func8 rfl rfl kj rfl <| sgC fun K1 hK1=>Qah (cat [ints .u8 (zab 32 0),#[.slice none 0 0],#[.bool false]]) 33 6 rfl kj kj fun g2 W1 l2 e1 r2_1=>?_
 have x1:=zbg (zbc w) e1
 have b2:=qT (zbc w).size l2
 refine Qah (ints .u8 (grp)) 23 7 rfl kj kj fun g3 W2 l3 e2 r3_2=>?_
 have x2:=zbg x1 e2
 have b3:=qT x1.size l3
 refine Qah (ints .u8 (sec)) 23 9 rfl kj kj fun g4 W3 l4 e3 r4_3=>?_
 have x3:=zbg x2 e3
 have b4:=qT x2.size l4
 refine Qah (cat [ints .u8 (zab 32 0),#[.slice none 0 0],#[.bool false]]) 33 12 rfl kj kj fun g5 W4 l5 e4 r5_4=>sg 1 kj <| sgN hK1 <| wp_seq_k fun K6 hK6=>sgC fun K7 hK7=>sg 1 kj ?_
 have r2_4:=(Qaa (Qaa (Qaa r2_1 e2) e3) e4)
 refine sv (.bool false) 20 (Qab 4 _ g2 33 33 _ (.bool false) _ r2_4 rfl kj (Qap [ints .u8 (zab 32 0),#[.slice none 0 0]] [#[.bool false]] [] 33 czR 0 _ rfl) kj) ?_
 refine sgN hK7 <| cond_false kj <| wp_skip <| hK6 _ _ <| wp_seq_k fun K8 hK8=>sgC fun K9 hK9=>sg 1 kj <| Qao (.bool true) 18 #[.int .i64 ((2^k:Nat):Int)] 23 rfl kj kj ((Qe1 _ _ hf) _) fun W5 e5=>?_
 have x5:=zbg (zbg x3 e4) e5
 refine sg 3 kj <| sv (.bool false) 27 (Qac (u:=.bool (decide (leaf<0))) kj (congrArg zag (decide_eq_false oo))) <| sg 4 kj <| sv (.bool false) 32 (Qac (u:=.bool (decide (leaf≥((2^k:Nat):Int)))) kj (congrArg zag (decide_eq_false oo))) <| sg 1 kj <| sgN hK9 <| cond_false kj <| wp_skip <| hK8 _ _ <| sgC fun K10 hK10=>?_
 refine sg 1 kj ?_
 have r2_5:=(Qaa r2_4 e5)
 refine sv (.slice none 0 0) 36 (Qab 31 _ g2 32 33 _ (.slice none 0 0) _ r2_5 rfl kj (Qap [ints .u8 (zab 32 0)] [#[.slice none 0 0]] [#[.bool false]] 32 (izT (qZ (n:=32))) 0 _ rfl) kj) <| sg 2 kj <| sgN hK10 <| wp_seq_k fun K11 hK11=>sgC fun K12 hK12=>sg 1 kj <| sv (.bool false) 39 (Qac (u:=.bool (decide (num<0))) kj (congrArg zag (decide_eq_false oo))) <| sg 2 kj <| sv (.bool false) 42 (Qac (u:=.bool (decide (num>4294967295))) kj (congrArg zag (decide_eq_false oo))) <| sg 22 kj ?_
 refine sgN hK12 <| cond_false kj <| wp_skip <| hK11 _ _ <| sgC fun K13 hK13=>sg 3 kj <| Qah (cat [#[.int .i64 0],#[.int .i64 0],#[.slice none 0 0]]) 64 15 rfl kj kj fun g14 W6 l14 e6 r14_6=>?_
 have b14:=qT x5.size l14
 refine Qag g14 _ (cat [#[.int .i64 num],#[.int .i64 leaf],#[.slice none 0 0]]) 64 r14_6 rfl kj (Qaf 64 _ _ g14 64 _ _ r14_6 rfl kj kj (isz (n:=3) kj kj) (eqsz (n:=3) kj kj) kj) fun W7 p7 r14_7=>sgN hK13 <| wp_seq_k fun K15 hK15=>sgB kj <| wp_block ?_
 have r2_7:=(rpn p7 r2_5 e6 l14)
 have r3_5:=(Qaa (Qaa (Qaa r3_2 e3) e4) e5)
 have r3_7:=(rpn p7 r3_5 e6 l14)
 have r4_5:=(Qaa (Qaa r4_3 e4) e5)
 have r4_7:=(rpn p7 r4_5 e6 l14)
 have r5_5:=(Qaa r5_4 e5)
 have r5_7:=(rpn p7 r5_5 e6 l14)
 have nq2:g2≠g14:=Qcg r2_7 r14_7 dd
 have nq3:g3≠g14:=Qcg r3_7 r14_7 dd
 have nq4:g4≠g14:=Qcg r4_7 r14_7 dd
 have nq5:g5≠g14:=Qcg r5_7 r14_7 dd
 refine Qa3 (fun (s1:Nat×Value×(List (List Int)))=>[(2,.int .i64 num),(4,.int .i64 ((2^k:Nat):Int)),(5,.int .i64 leaf),(6,pp g2 0),(7,pp g3 0),(9,pp g4 0),(12,pp g5 0),(13,.int .i64 0),(14,.int .i64 0),(15,pp g14 0),(16,.int .i64 (s1.1:Int))]) (fun (s1:Nat×Value×(List (List Int))) W=>(s1.1≤2^k)∧(OwG 69 36 w.heap.size lnC s1.2.2 s1.2.1 W)∧(s1.2.2.length=s1.1)∧(∀ l∈s1.2.2,l.length=32)∧(W.heap[g2]? = some (.cells (cat [ints .u8 (zab 32 0),#[.slice none 0 0],#[.bool false]]) 33))∧(W.heap[g3]? = some (.cells (ints .u8 (grp)) 23))∧(W.heap[g4]? = some (.cells (ints .u8 (sec)) 23))∧(W.heap[g5]? = some (.cells (cat [ints .u8 (zab 32 0),#[.slice none 0 0],#[.bool false]]) 33))∧(W.heap[g14]? = some (.cells (cat [#[.int .i64 num],#[.int .i64 leaf],#[s1.2.1]]) 64))∧(Ext w W)) (fun (s1:Nat×Value×(List (List Int)))=>2^k-s1.1) (0,(.slice none 0 0),[]) ⟨kj,kj,kj,kj,kj,kj,kj,kj,kj,kj,kj,trivial⟩ ⟨(zaf _),(OwG.nil _ _ _ _ _),rfl,(fun l h=>by cases h),r2_7,r3_7,r4_7,r5_7,r14_7,(zbf p7 (zbg x5 e6) b14)⟩ fun s1 X1 V1 hI1=>?_
 obtain ⟨i,vs,ls⟩:=s1
 obtain ⟨hi,hvs,hll,hl32,rr2,rr3,rr4,rr5,q14_1,xx1⟩:=hI1
 replace hi:i≤2^k:=hi
 replace hvs:OwG 69 36 w.heap.size lnC ls vs V1:=hvs
 replace hll:ls.length=i:=hll
 replace hl32:∀ l∈ls,l.length=32:=hl32
 replace rr2:V1.heap[g2]? = some (.cells (cat [ints .u8 (zab 32 0),#[.slice none 0 0],#[.bool false]]) 33):=rr2
 replace rr3:V1.heap[g3]? = some (.cells (ints .u8 (grp)) 23):=rr3
 replace rr4:V1.heap[g4]? = some (.cells (ints .u8 (sec)) 23):=rr4
 replace rr5:V1.heap[g5]? = some (.cells (cat [ints .u8 (zab 32 0),#[.slice none 0 0],#[.bool false]]) 33):=rr5
 replace q14_1:V1.heap[g14]? = some (.cells (cat [#[.int .i64 num],#[.int .i64 leaf],#[vs]]) 64):=q14_1
 replace xx1:Ext w V1:=xx1
 refine wp_seq_k fun K17 hK17=>sgB kj <| Qay (t:=decide ((i:Int)<((2^k:Nat):Int))) kj (fun c19=>?_) (fun c19=>?_)
 ·skip
  have hlt71:i<2^k:=by have:=of_decide_eq_true c19; omega
  refine wp_skip <| hK17 _ _ <| wp_seq_k fun K20 hK20=>wp_block <| QaT 8 [⟨none,[(15,none)]⟩,⟨none,[(74,some 0)]⟩,⟨none,[(9,none)]⟩,⟨none,[(4,none)]⟩,⟨none,[(16,none)]⟩,⟨none,[(76,some 2),(77,some 3),(78,some 4)]⟩,⟨none,[(79,some 5)]⟩,⟨none,[(80,some 6)]⟩] kj kj fun F hF=>Qa2 (Qam _) (pp g14 2) kj kj (fun _=>kj) <| QaN (Qam _) (vs) kj kj (fun W hR=>(Qab 62 _ g14 2 64 _ (vs) _ (Qaa (Qaa q14_1 (Qan _)) hR) rfl kj kj kj)) <| QaN (Qam _) (.agg (ints .u8 (sec))) kj kj (fun W hR=>(Qae 23 _ g4 23 _ _ (Qaa (Qaa rr4 (Qan _)) hR) rfl kj kj (isz (n:=32) kj (izT hsl)))) <| Qa2 (Qam _) (.int .i64 ((2^k:Nat):Int)) kj kj (fun _=>kj) <| Qa2 (Qam _) (.int .i64 (i:Int)) kj kj (fun _=>kj) ?_
  refine Qdn (Qam _) (.agg (ints .u8 (Qbw sec k i))) 19 #[.agg (ints .u8 (sec)),.int .i64 ((2^k:Nat):Int),.int .i64 (i:Int)] kj kj (fun _=>kj) (fun W hR=>(Qp9 sec hsl hsb k hk i hlt71) W) <| Qa2 (Qam _) (.agg (cat [ints .u8 (Qbw sec k i),#[.int .i64 0],#[.slice none 0 0],#[.slice none 0 0],#[.int .i64 0]])) kj kj (fun W=>(Qem 69 _ (.agg (cat [ints .u8 (zab 32 0),#[.int .i64 0],#[.slice none 0 0],#[.slice none 0 0],#[.int .i64 0]])) #[(0,32),(32,1),(33,1),(34,1),(35,1)] 0 [] (cat [ints .u8 (zab 32 0),#[.int .i64 0],#[.slice none 0 0],#[.slice none 0 0],#[.int .i64 0]]) [(0,32,.agg (ints .u8 (Qbw sec k i)),ints .u8 (Qbw sec k i))] [#[.int .i64 0],#[.slice none 0 0],#[.slice none 0 0],#[.int .i64 0]] rfl kj rfl ⟨kj,rfl,(izT (QcY hsl _ _)),trivial⟩ kj (zaQ kj) kj kj kj kj)) <| Qhg (Qam _) (fun v W'=>∃ g,v=.slice (some ⟨g,0,none⟩) 1 1∧W'.heap[g]? = some (.cells (lnA (Qbw sec k i)) 69)) (fun _ _ _ hR ⟨g,h1,h2⟩=>⟨g,h1,Qaa h2 hR⟩) (fun ρ W hR hh=>⟨_,_,Qhx 62 69 36 (.tmp 80) (.agg (lnA (Qbw sec k i))) rfl (show ρ 80=.agg (lnA (Qbw sec k i)) from hh.1) kj kj kj (Qio _ (QcY hsl _ _)) dd dd,Qbi _ _,W.heap.size,rfl,heap_alloc_new _ _⟩) <| Qc3 (hF _ fun W9 e9=>?_)
  simp only [za9,zaA,zaB,zaC,zaD,zaE,finE,up]
  intro vv21 hv21
  clear hF
  have x9:=zbg xx1 e9
  obtain ⟨gs_,rfl,rs_⟩:=hv21
  have r5_9:=(Qaa rr5 e9)
  have r14_9:=(Qaa q14_1 e9)
  have y8_9:=(zbd (zbc V1) e9)
  have hvs_:OwG 69 36 w.heap.size lnC ls vs W9:=(hvs.ext y8_9)
  refine QhS 96 (.tmp 75) (.tmp 81) 62 82 rfl kj kj dd dd (f:=lnC) (e:=Qbw sec k i) rfl rfl hvs_ (Qkm _ (QcY hsl _ _)) (Qns _) rs_ (by rw [hll]; have:=zaK (show 0<2 by decide) hk; omega) x9.size rfl kj fun vs2 W10 hvs2 hgw=>?_
  obtain ⟨a_2,c_2,rfl⟩:∃ a c,vs2=.slice a (ls++[Qbw sec k i]).length c:=hvs2.sl
  have x10:=Qiv x9 hvs_ hgw
  have rb2_10:=Qdg hvs_ hgw (Qaa rr2 e9) dd
  have rb3_10:=Qdg hvs_ hgw (Qaa rr3 e9) dd
  have rb4_10:=Qdg hvs_ hgw (Qaa rr4 e9) dd
  have rb5_10:=Qdg hvs_ hgw r5_9 dd
  have rb14_10:=Qdg hvs_ hgw r14_9 dd
  refine sg 1 kj <| Qag g14 _ (cat [#[.int .i64 num],#[.int .i64 leaf],#[.slice a_2 (ls++[Qbw sec k i]).length c_2]]) 64 rb14_10 rfl kj (Qbj 62 _ _ g14 2 64 _ (.slice a_2 (ls++[Qbw sec k i]).length c_2) rb14_10 rfl kj kj kj kj kj rfl) fun W11 p11 r14_11=>?_
  have x11:=zbf p11 x10 b14
  refine Qas <| hK20 _ _ <| Qaj <| sg 1 kj <| sv (.int .i64 ((i+1:Nat):Int)) 73 (Qac (u:=.int .i64 (zao.wrap ((i:Int)+1))) kj (congrArg (zam .i64) (i64n _ _ oo oo))) <| sg 1 kj <| Qas ?_
  have r5_11:=(zbe p11 rb5_10 nq5)
  with_reducible repeat first | refine goX1 ?_ | refine goX2 ?_ | refine goX3 ?_
  exact Qa1 ((i+1),(.slice a_2 (ls++[Qbw sec k i]).length c_2),(ls++[Qbw sec k i])) ⟨kj,kj,kj,kj,kj,kj,kj,kj,kj,kj,kj,trivial⟩ ⟨oo,(hvs2.keep (fun g9 h9=>p11.2.2.2.2 g9 (fun e9=>by obtain ⟨-,cur9,r9⟩:=hvs2.at h9; exact Qcg r9 rb14_10 dd e9))),(by rw [zah,hll]; rfl),(fun l9 h9=>(zaO.1 h9).elim (hl32 l9) (fun h=>by rw [zat.1 h]; exact QcY hsl _ _)),(zbe p11 rb2_10 nq2),(zbe p11 rb3_10 nq3),(zbe p11 rb4_10 nq4),r5_11,r14_11,x11⟩ oo
 ·skip
  have heq71:i=2^k:=by have:=of_decide_eq_false c19; omega
  refine wp_exit <| hK15 _ _ <| sgC fun K22 hK22=>sv (.agg (ints .u8 (grp))) 84 (Qae 23 _ g3 23 _ _ rr3 rfl kj kj (isz (n:=32) kj (izT hgl))) <| sv (.agg (cat [ints .u8 (grp),#[.slice none 0 0],#[.bool false]])) 85 (Qem 33 _ (.agg (cat [ints .u8 (zab 32 0),#[.slice none 0 0],#[.bool false]])) #[(0,32),(32,1),(33,1)] 0 [] (cat [ints .u8 (zab 32 0),#[.slice none 0 0],#[.bool false]]) [(0,32,.agg (ints .u8 (grp)),ints .u8 (grp))] [#[.slice none 0 0],#[.bool false]] rfl kj rfl ⟨kj,rfl,(izT hgl),trivial⟩ kj (zaQ kj) kj kj kj kj) <| Qah (cat [ints .u8 (zab 32 0),#[.slice none 0 0],#[.bool false]]) 33 17 rfl kj kj fun g23 W9 l23 e9 r23_9=>?_
  have x9:=zbg xx1 e9
  have b23:=qT xx1.size l23
  refine Qag g23 _ (cat [ints .u8 (grp),#[.slice none 0 0],#[.bool false]]) 33 r23_9 rfl kj (Qaf 33 _ _ g23 33 _ _ r23_9 rfl kj kj (isz (n:=34) kj (cz1 hgl)) (eqsz (n:=34) czR (cz1 hgl)) (QaQ _ (by intro a ha; simp only [zaL,zaM,or_false] at ha; rcases ha with rfl | rfl | rfl; exact (Qat _ _); exact (Qaz _ rfl); exact (Qaz _ rfl)))) fun W10 p10 r23_10=>?_
  have x10:=zbf p10 x9 b23
  refine sgN hK22 <| wp_seq_k fun K24 hK24=>sgB kj <| wp_block <| wp_loop_rounds 1 ?_
  show zaF _ _ (Exit.then (zaG _ _ _ 0) _) _ _
  refine wp_seq_k fun K26 hK26=>sgB kj <| cond_false kj <| wp_exit <| hK24 _ _ <| sgC fun K28 hK28=>sg 1 kj <| sv (.slice none 0 0) 108 (Qab 31 _ g23 32 33 _ (.slice none 0 0) _ r23_10 rfl kj (Qap [ints .u8 (grp)] [#[.slice none 0 0]] [#[.bool false]] 32 (izT hgl) 0 _ rfl) kj) ?_
  have r14_9:=(Qaa q14_1 e9)
  refine sv (.agg (cat [#[.int .i64 num],#[.int .i64 leaf],#[vs]])) 109 (Qae 64 _ g14 64 _ _ (zbe p10 r14_9 (Qad q14_1 l23)) rfl kj kj (isz (n:=3) kj kj)) <| QaA (deA (⟨num,leaf,vs⟩:De)) 64 1 110 rfl kj (Qhx 31 64 3 (.tmp 109) (.agg (deA (⟨num,leaf,vs⟩:De))) rfl kj kj kj kj rfl dd dd) fun gd_ W11 ld_ e11 rd_=>?_
  have x11:=zbg x10 e11
  have r5_9:=(Qaa rr5 e9)
  have r5_11:=(Qaa (zbe p10 r5_9 (Qad rr5 l23)) e11)
  have nq12_17:g5≠g23:=(Qad rr5 l23)
  have y8_9:=(zbd (zbc V1) e9)
  have hvs9:=(hvs.ext (zbd (zbf p10 y8_9 l23) e11))
  obtain ⟨av9,cv9,ev9⟩:=hvs.sl
  have hnl9:OwG 64 3 w.heap.size deC [] (.slice none 0 0) W11:=OwG.nil _ _ _ _ _
  refine QhS 40 (.tmp 108) (.tmp 110) 31 111 rfl kj kj dd dd (f:=deC) (e:=(⟨num,leaf,vs⟩:De)) rfl rfl hnl9 (QkG _) (Qn5 _ (by rw [ev9]; rfl)) rd_ dd x11.size rfl kj fun ve W12 hve hgv=>?_
  obtain ⟨a_e,c_e,rfl⟩:∃ a c,ve=.slice a 1 c:=hve.sl
  have rq17:=Qdg hnl9 hgv (Qaa r23_10 e11) dd
  have rq12:=Qdg hnl9 hgv r5_11 dd
  have hvs10:=hvs9.ext (Qfu hgv)
  refine sg 1 kj <| Qag g23 _ (cat [ints .u8 (grp),#[.slice a_e 1 c_e],#[.bool false]]) 33 rq17 rfl kj (run_storeQ 31 _ _ g23 32 33 [ints .u8 (grp)] [#[.bool false]] _ (.slice a_e 1 c_e) rq17 rfl kj kj kj (izT hgl) rfl rfl) fun W13 p13 r23_13=>sgN hK28 <| sgC fun K29 hK29=>sv (.agg (cat [ints .u8 (grp),#[.slice a_e 1 c_e],#[.bool false]])) 113 (Qae 33 _ g23 33 _ _ r23_13 rfl kj kj (isz (n:=34) kj (cz1 hgl))) ?_
  have r5_13:=(zbe p13 rq12 nq12_17)
  refine Qag g5 _ (cat [ints .u8 (grp),#[.slice a_e 1 c_e],#[.bool false]]) 33 r5_13 rfl kj (Qaf 33 _ _ g5 33 _ _ r5_13 rfl kj kj (isz (n:=34) kj (cz1 hgl)) (eqsz (n:=34) czR (cz1 hgl)) (QaQ _ (by intro a ha; simp only [zaL,zaM,or_false] at ha; rcases ha with rfl | rfl | rfl; exact (Qat _ _); exact (Qaz _ rfl); exact (Qaz _ rfl)))) fun W14 p14 r5_14=>?_
  refine sg 1 kj <| sgN hK29 <| wp_ret ?_
  exact (show bodyPost _ _ _ .ret _ _ from ret2 (.agg (cat [ints .u8 (grp),#[.slice a_e 1 c_e],#[.bool false]])) (.int .i64 0) rfl (QaJ g5 33 _ r5_14 kj kj (isz (n:=34) kj (cz1 hgl))) (Qax kj) ⟨_,rfl,(zbf p14 (zbf p13 (Qiv x11 hnl9 hgv) b23) (qT x3.size l5)),(.slice a_e 1 c_e),vs,ls,rfl,((((hve).keep (fun g9 h9=>p13.2.2.2.2 g9 (fun e9=>by obtain ⟨-,cur9,r9⟩:=(hve).at h9; exact Qcg r9 rq17 dd e9)))).keep (fun g9 h9=>p14.2.2.2.2 g9 (fun e9=>by obtain ⟨-,cur9,r9⟩:=(((hve).keep (fun g9 h9=>p13.2.2.2.2 g9 (fun e9=>by obtain ⟨-,cur9,r9⟩:=(hve).at h9; exact Qcg r9 rq17 dd e9)))).at h9; exact Qcg r9 r5_13 dd e9))),((((hvs10).keep (fun g9 h9=>p13.2.2.2.2 g9 (fun e9=>by obtain ⟨-,cur9,r9⟩:=(hvs10).at h9; exact Qcg r9 rq17 dd e9)))).keep (fun g9 h9=>p14.2.2.2.2 g9 (fun e9=>by obtain ⟨-,cur9,r9⟩:=(((hvs10).keep (fun g9 h9=>p13.2.2.2.2 g9 (fun e9=>by obtain ⟨-,cur9,r9⟩:=(hvs10).at h9; exact Qcg r9 rq17 dd e9)))).at h9; exact Qcg r9 r5_13 dd e9))),by omega,hl32⟩)
end Pk
end
section
namespace Pk
open Go Go.RowKit
open Rely Auto Own Sha
open Cha
open Ae hiding run_storeQ
open Cn hiding nb_new run_extractT
theorem QiQ {P : Program} {ρ:Operand→Value} {o:Oper} {w:World} (t:TypeId) (x y:Operand) (k:IntKind) (n g off len cap:Nat) (e:TypeId) (sz:Nat) (ho:o.op=.indexAddr t x y) (hx:ρ x=.slice (some ⟨g,off,none⟩) len cap) (hy:ρ y=.int k n)
    (hu:P.underlying t=some (.slice e)) (hs:(P.info? e).map (·.size)=some sz) (hn:n<len) (z:Nat) (hz:z=off+n*sz):(execOp ρ o).run P w=.ok (.value (pp g z)) w:=by
  subst hz
  cases hq:P.info? e with
  | none=>simp [hq] at hs
  | some i =>
    have hs':i.size=sz:=by simpa [hq] using hs
    have hadd:(⟨g,off,none⟩:Addr).add (n*sz)=⟨g,off+n*sz,none⟩:=by unfold Addr.add; split <;> simp_all
    have h0:(0:Int)≤(n:Int):=by omega
    have h1:(n:Int)<(len:Int):=by omega
    unfold execOp
    simp only [ho,hx,hy]
    simp [Instr.indexAt,asIntOf,run_underlying hu,sizeOf,typeInfo,hq,hs',h0,hn,hadd]
section
variable {ds : List Deferred} {P : Program} {ops : Array Oper} {Q : Exit → Act → World → Prop} {rest : List Oper} {o : Oper} {N : Nat} {L : Env} {W : World}
theorem Qli {k : IntKind} {T:TypeId} (b:Nat) (s x:Operand) (t:TypeId) (ho:o.op=.call { callee:=.builtin .append,args:=#[s,x],argTypes:=#[t,t] })
    (ht:P.underlying t=some (.slice T)) (hi:(P.info? T).map (fun i=>(i.zero,i.size,i.bytes))=some (some (.int k 0),1,b)) (hb8:b≤8) (d:Nat) (hd:o.dst=some d) (hg:Qbp ops o N L=some true) {B:Nat} {v y:Value} {xs ys:List Int} {V:World}
    (hs:Rely.look (envN N L) s=v) (hx:Rely.look (envN N L) x=y) (h:OwnN k T V.heap.size xs v W) (hy:RdK k B ys y W) (hn:xs.length+ys.length≤1000000000) (hV:Ext V W)
    (kk:∀ (u:Value) (W':World),OwnN k T V.heap.size (xs++ys) u W'→Ext V W'→(∀ (g:Nat) (c:Array Value) (T':TypeId),W.heap[g]? = some (.cells c T')→T'≠T→W'.heap[g]? = some (.cells c T'))→WL P ops Q rest (Qav ds N ((d,u)::L)) W'):WL P ops Q (o::rest) (Qav ds N L) W:=by
  obtain ⟨v',W',h1,h2,h3,h4⟩:=Qdk (ρ:=Rely.look (envN N L)) (o:=o) (W:=W) s x t ho ht hi hb8 hs hx h hy hn hV.size
  refine Qbs _ _ d hd hg h1 (kk v' W' h2 (Qft hV h h3) fun g c T' r hT=>(h3.block g (Qaq r) (fun e=>?_)).trans r)
  rcases h.1.2 with ⟨q,_⟩ | ⟨g',cc,cur,q1,q2,q3,_⟩
  · rw [q] at e; cases e
  · rw [q1] at e
    obtain rfl:g=g':=Option.some.inj e
    exact Qcg r q3 hT rfl
end
theorem Qm1 (xs : List Int) (v v2:Value) (B B2:Nat) (w:World) (hx:RdK .i64 B xs v w) (hy:RdK .i64 B2 xs v2 w) (hxl:xs.length≤1000):Calls Tryz.prog 20 #[v,v2] w (Ret w (.bool true)):=by
 obtain ⟨a_x,c_x,rfl,-⟩:=id hx
 obtain ⟨a_y,c_y,rfl,-⟩:=id hy
 refine enter 26 [(0,.slice a_x xs.length c_x),(1,.slice a_y xs.length c_y)] Tryz.func20 rfl rfl kj rfl <| sgB kj <| wp_seq_k fun K2 hK2=>sgC fun K3 hK3=>sg 4 kj <| sv (.bool false) 10 (Qac (u:=.bool (((xs.length:Int) != (xs.length:Int)))) kj (congrArg zag (bne_eq_false_iff_eq.2 rfl))) <| sgN hK3 <| cond_false kj <| wp_skip <| hK2 _ _ ?_
 refine wp_seq_k fun K4 hK4=>sgB kj <| wp_block <| Qa3 (fun (s1:Nat)=>[(0,.slice a_x xs.length c_x),(1,.slice a_y xs.length c_y),(4,.bool false),(11,.slice a_x xs.length c_x),(12,.int .i64 (xs.length:Int)),(13,.int .i64 (s1:Int))]) (fun (s1:Nat) W=>(s1≤xs.length)∧(Ext w W)∧(Ext w W)) (fun (s1:Nat)=>xs.length-s1) 0 ⟨kj,kj,kj,kj,kj,kj,trivial⟩ ⟨(zaf _),(zbc w),(zbc w)⟩ fun s1 X1 V1 hI1=>?_
 obtain ⟨i,hs1⟩:∃ z,z=s1:=⟨_,rfl⟩
 subst hs1
 obtain ⟨hi,kk1,xx1⟩:=hI1
 replace hi:i≤xs.length:=hi
 replace kk1:Ext w V1:=kk1
 replace xx1:Ext w V1:=xx1
 have e1:=kk1
 refine sgB kj <| wp_seq_k fun K7 hK7=>Qay (t:=decide ((i:Int)<(xs.length:Int))) kj (fun c8=>?_) (fun c8=>?_)
 ·skip
  have hlt:i<xs.length:=by have:=of_decide_eq_true c8; omega
  obtain ⟨grx9,orx9,harx9,-,hlrx9,hcrx9⟩:=Qe6 (RdK.ext hx xx1) oo
  obtain ⟨gry10,ory10,hary10,-,hlry10,hcry10⟩:=Qe6 (RdK.ext hy xx1) oo
  refine wp_skip <| hK7 _ _ <| wp_seq_k fun K11 hK11=>wp_block <| sgB kj <| wp_seq_k fun K13 hK13=>QaT 8 [⟨none,[(0,none)]⟩,⟨none,[(5,none)]⟩,⟨none,[(16,some 0),(17,some 1)]⟩,⟨none,[(18,some 2)]⟩,⟨none,[(1,none)]⟩,⟨none,[(5,none)]⟩,⟨none,[(20,some 4),(21,some 5)]⟩,⟨none,[(22,some 6)]⟩] kj kj fun F hF=>Qa2 (Qam _) (.slice a_x xs.length c_x) kj kj (fun _=>kj) <| Qa2 (Qam _) (.int .i64 (i:Int)) kj kj (fun _=>kj) <| Qa2 (Qam _) (pp grx9 (orx9+i)) kj kj (fun W=>(QaP 67 _ _ .i64 i grx9 orx9 xs.length c_x 3 a_x _ harx9 rfl rfl kj kj kj kj (zal (show i<(xs).length by omega) (rfl:(xs).length=(xs).length).symm))) ?_
  refine QaN (Qam _) (.int .i64 (nth (xs) (i))) kj kj (fun W hR=>(QaB 3 _ _ (.int .i64 (nth (xs) (i))) ((Below.cell (zbd (Qan _) hR) hlrx9).trans (hcrx9 i (zal (show i<(xs).length by omega) (rfl:(xs).length=(xs).length).symm))) rfl kj kj)) <| Qa2 (Qam _) (.slice a_y xs.length c_y) kj kj (fun _=>kj) <| Qa2 (Qam _) (.int .i64 (i:Int)) kj kj (fun _=>kj) <| Qa2 (Qam _) (pp gry10 (ory10+i)) kj kj (fun W=>(QaP 67 _ _ .i64 i gry10 ory10 xs.length c_y 3 a_y _ hary10 rfl rfl kj kj kj kj (zal (show i<(xs).length by omega) (rfl:(xs).length=(xs).length).symm))) <| QaN (Qam _) (.int .i64 (nth (xs) (i))) kj kj (fun W hR=>(QaB 3 _ _ (.int .i64 (nth (xs) (i))) ((Below.cell (zbd (Qan _) hR) hlry10).trans (hcry10 i (zal (show i<(xs).length by omega) (rfl:(xs).length=(xs).length).symm))) rfl kj kj)) <| Qc3 (hF _ fun W2 e2=>?_)
  simp only [za9,zaA,zaB,zaC,zaD,zaE,finE,up]
  clear hF
  refine sv (.bool false) 24 (Qac (u:=.bool (((nth (xs) (i)) != (nth (xs) (i))))) kj (congrArg zag (bne_eq_false_iff_eq.2 rfl))) <| sgN hK13 <| cond_false kj <| wp_skip <| hK11 _ _ <| Qaj <| sv (.int .i64 ((i+1:Nat):Int)) 25 (Qac (u:=.int .i64 (zao.wrap ((i:Int)+1))) kj (congrArg (zam .i64) (i64n _ _ oo oo))) <| sg 1 kj <| Qas ?_
  with_reducible repeat first | refine goX1 ?_ | refine goX2 ?_ | refine goX3 ?_
  exact Qa1 (i+1) ⟨kj,kj,kj,kj,kj,kj,trivial⟩ ⟨oo,(zbd e1 e2),(zbg xx1 e2)⟩ (by show xs.length-(i+1)<xs.length-i; omega)
 ·skip
  refine wp_exit <| hK4 _ _ <| sgB kj <| wp_ret ?_
  exact (show bodyPost _ _ _ .ret _ _ from ret1 (.bool true) rfl (Qax kj) ⟨rfl,xx1⟩)
theorem QfZ (g : Nat) (g0:List Int) (hg9:g0.length=32) (w:World) (hg:w.heap[g]? = some (.cells (cat [#[.slice none 0 0],#[.bool false]]) 52)):Calls Tryz.prog 10 #[pp g 0,.agg (cat [ints .u8 (g0),#[.slice none 0 0],#[.bool false]])] w (Ret w (.bool true)):=by
  refine enter 45 [(0,pp g 0),(1,.agg (cat [ints .u8 (g0),#[.slice none 0 0],#[.bool false]]))] Tryz.func10 rfl rfl kj rfl <| sgC fun K2 hK2=>Qah (cat [ints .u8 (g0),#[.slice none 0 0],#[.bool false]]) 33 3 rfl kj kj fun g3 W1 l3 e1 r3_1=>?_
  have x1:=zbg (zbc w) e1
  have b3:=qT (zbc w).size l3
  refine sg 1 kj <| sgN hK2 <| sgC fun K4 hK4=>QaA (ints .i64 ([])) 3 0 9 rfl kj kj fun g5 W2 l5 e2 r5_2=>?_
  have b5:=qT x1.size l5
  refine sg 1 kj <| sgN hK4 <| sgB kj <| wp_seq_k fun K7 hK7=>sgC fun K8 hK8=>sg 1 kj <| sv (.slice none 0 0) 11 (Qab 31 _ g3 32 33 _ (.slice none 0 0) _ (Qaa r3_1 e2) rfl kj (Qap [ints .u8 (g0)] [#[.slice none 0 0]] [#[.bool false]] 32 (izT hg9) 0 _ rfl) kj) <| sg 2 kj <| sgN hK8 <| wp_block ?_
  refine wp_loop_rounds 1 ?_
  show zaF _ _ (Exit.then (zaG _ _ _ 0) _) _ _
  refine sgB kj <| wp_seq_k fun K10 hK10=>cond_false kj <| wp_exit <| hK7 _ _ <| sgC fun K11 hK11=>sg 1 kj ?_
  have r1_2:=(Qaa (Qaa hg e1) e2)
  refine Qao (.slice none 0 0) 21 #[pp g 0] 31 rfl kj kj (QlQ g _ r1_2) fun W3 e3=>sg 1 kj <| Qao (.bool true) 20 #[.slice none 0 0,.slice (some ⟨g5,0,none⟩) 0 0] 33 rfl kj kj (Qm1 [] _ _ _ _ _ (zbh (Qb5 .i64 3 0 _)) (zbh (Qb3 (T:=3) (base:=0) (xs:=[]) rfl (zaf _) (Qaa r5_2 e3) (zaf _))) (show 0≤1000 from by decide)) fun W4 e4=>sg 2 kj <| Qao (.int .i64 0) 22 #[pp g 0] 36 rfl kj kj (Qo5 g _ (Qaa (Qaa r1_2 e3) e4)) fun W5 e5=>sg 9 kj <| sgN hK11 <| wp_ret ?_
  exact (show bodyPost _ _ _ .ret _ _ from ret1 (.bool true) rfl (Qax kj) ⟨rfl,(zbg (zbg (zbg (zbg x1 e2) e3) e4) e5)⟩)
theorem QfY (g ge ce gc:Nat) (grp0:List Int) (hg0:grp0.length=32) (tl:Array Value) (num:Int) (i:Nat) (w:World) (hg:w.heap[g]? = some (.cells (cat [#[.slice (some ⟨ge,0,none⟩) 1 ce],#[.bool false]]) 52)) (hge:w.heap[ge]? = some (.cells (cat [#[pp gc 0],ints .u8 grp0,#[.int .i64 num],#[.int .i64 (i:Int)],tl]) 58)) (gl len cap:Nat) (lp:Array Value) (hgc:w.heap[gc]? = some (.cells #[.slice (some ⟨gl,0,none⟩) len cap] 85)) (hgl_:w.heap[gl]? = some (.cells lp 91)) (cg cm:Nat) (hi:i<len) (hli:lp[i]? = some (pp cg 0)) (s0 ts:List Int) (ms:List (Int×List Int)) (hch:ChSt cg cm s0 ts 0 ms w)
    (g0:List Int) (hg9:g0.length=32) (gq cq gL nL cL o:Nat) (tq P tl2:Array Value) (l:List Int) (hl32:l.length=32) (ho:o=36*i) (hP:P.size=o) (hiL:i<nL) (hq1:w.heap[gq]? = some (.cells (cat [#[.int .i64 num],#[.int .i64 (i:Int)],#[.slice (some ⟨gL,0,none⟩) nL cL],tq]) 64)) (hgL:w.heap[gL]? = some (.cells (cat [P,ints .u8 l,#[.int .i64 0],tl2]) 69)):Calls Tryz.prog 10 #[pp g 0,.agg (cat [ints .u8 (g0),#[.slice (some ⟨gq,0,none⟩) 1 cq],#[.bool false]])] w (Ret w (.bool true)):=by
  refine enter 45 [(0,pp g 0),(1,.agg (cat [ints .u8 (g0),#[.slice (some ⟨gq,0,none⟩) 1 cq],#[.bool false]]))] Tryz.func10 rfl rfl kj rfl <| sgC fun K7 hK7=>Qah (cat [ints .u8 (g0),#[.slice (some ⟨gq,0,none⟩) 1 cq],#[.bool false]]) 33 3 rfl kj kj fun g8 W1 l8 e1 r8_1=>?_
  have x1:=zbg (zbc w) e1
  have b8:=qT (zbc w).size l8
  refine sg 1 kj <| sgN hK7 <| sgC fun K9 hK9=>QaA (ints .i64 ([])) 3 0 9 rfl kj kj fun g10 W2 l10 e2 r10_2=>?_
  have x2:=zbg x1 e2
  refine sg 1 kj <| sgN hK9 <| sgB kj <| wp_seq_k fun K12 hK12=>sgC fun K13 hK13=>sg 1 kj <| sv (.slice (some ⟨gq,0,none⟩) 1 cq) 11 (Qab 31 _ g8 32 33 _ (.slice (some ⟨gq,0,none⟩) 1 cq) _ (Qaa r8_1 e2) rfl kj (Qap [ints .u8 (g0)] [#[.slice (some ⟨gq,0,none⟩) 1 cq]] [#[.bool false]] 32 (izT hg9) 0 _ rfl) kj) <| sg 2 kj <| sgN hK13 <| wp_block ?_
  refine wp_loop_rounds 2 ?_
  show zaF _ _ (Exit.then (zaG _ _ _ 1) _) _ _
  refine sgB kj <| sgT kj <| wp_seq_k fun K16 hK16=>wp_block <| sgC fun K17 hK17=>sg 1 kj <| sv (.agg (cat [#[.int .i64 num],#[.int .i64 (i:Int)],#[.slice (some ⟨gL,0,none⟩) nL cL]])) 16 (Qa4 64 _ gq 0 64 _ _ _ (Qaa (Qaa hq1 e1) e2) rfl kj (Qap [] [#[.int .i64 num],#[.int .i64 (i:Int)],#[.slice (some ⟨gL,0,none⟩) nL cL]] [tq] 0 kj) kj (isz (n:=3) kj kj)) <| Qah (cat [#[.int .i64 0],#[.int .i64 0],#[.slice none 0 0]]) 64 8 rfl kj kj fun g18 W3 l18 e3 r18_3=>Qag g18 _ (cat [#[.int .i64 num],#[.int .i64 (i:Int)],#[.slice (some ⟨gL,0,none⟩) nL cL]]) 64 r18_3 rfl kj (Qaf 64 _ _ g18 64 _ _ r18_3 rfl kj kj (isz (n:=3) kj kj) (eqsz (n:=3) kj kj) kj) fun W4 p4 r18_4=>?_
  have x4:=zbf p4 (zbg x2 e3) (qT x2.size l18)
  refine sgN hK17 <| sgC fun K19 hK19=>sg 2 kj <| sv (.int .i64 num) 19 (Qab 3 _ g18 0 64 _ (.int .i64 num) _ r18_4 rfl kj kj kj) <| QaA (ints .i64 ([num])) 3 1 20 rfl kj kj fun g20 W5 l20 e5 r20_5=>?_
  have b20:=qT x4.size l20
  refine Qli (T:=3) 8 (.tmp 17) (.tmp 20) 67 rfl kj kj dd 21 rfl kj rfl rfl (Qb3 (xs:=[]) rfl (qT x1.size l10) (Qaa (rpn p4 r10_2 e3 l18) e5) (zaf _)) (QaL (xs:=[num]) (n:=1) rfl r20_5 (Qaq r20_5) (show 1≤maxLen from by decide)) (show 1≤1000000000 from by decide) (zbg x4 e5) fun v21 W6 ho21 x6 l6=>?_
  obtain ⟨a21_,c21_,rfl⟩:∃ a c,v21=.slice a 1 c:=(by obtain ⟨a,c,h,-⟩:=zbh ho21; exact ⟨a,c,h⟩)
  refine sg 1 kj <| sgN hK19 <| Qaj <| sg 1 kj ?_
  have r18_6:=(l6 _ _ _ (Qaa r18_4 e5) dd)
  refine sv (.slice (some ⟨gL,0,none⟩) nL cL) 23 (Qab 62 _ g18 2 64 _ (.slice (some ⟨gL,0,none⟩) nL cL) _ r18_6 rfl kj kj kj) <| sg 1 kj <| sv (.int .i64 (i:Int)) 25 (Qab 3 _ g18 1 64 _ (.int .i64 (i:Int)) _ r18_6 rfl kj kj kj) <| sv (pp gL o) 26 (QiQ 62 _ _ .i64 i gL 0 nL cL 69 36 rfl kj kj kj kj hiL o oo) <| sg 1 kj ?_
  have r6_2:=(Qaa (Qaa hgL e1) e2)
  have r6_6:=(l6 _ _ _ (Qaa (rpn p4 r6_2 e3 l18) e5) dd)
  refine sv (.int .i64 0) 28 (Qab 3 _ gL (o+32) 69 _ (.int .i64 0) _ r6_6 rfl kj (Qap [P,ints .u8 (l)] [#[.int .i64 0]] [tl2] (o+32) (by rw [Qal,Qal]; simp only [qS,cat,(izT hl32),hP]; rfl) 0 _ rfl) kj) ?_
  refine sg 1 kj <| Qas <| hK16 _ _ <| sgA kj ?_
  show zaG _ _ _ 1 _ _
  show zaF _ _ (Exit.then (zaG _ _ _ 0) _) _ _
  refine sgB kj <| wp_seq_k fun K23 hK23=>cond_false kj <| wp_exit <| hK12 _ _ <| sgC fun K24 hK24=>sg 1 kj ?_
  have r1_2:=(Qaa (Qaa hg e1) e2)
  have r1_6:=(l6 _ _ _ (Qaa (rpn p4 r1_2 e3 l18) e5) dd)
  have r2_2:=(Qaa (Qaa hge e1) e2)
  have r2_6:=(l6 _ _ _ (Qaa (rpn p4 r2_2 e3 l18) e5) dd)
  refine Qau (fun v W'=>(OwnN .i64 3 W6.heap.size [num]) v W'∧Ext W6 W') 21 #[pp g 0] 31 rfl kj kj ((QlP g ge ce gc grp0 hg0 tl num (i:Int) _ r1_6 r2_6).mono mo1) fun vv25 W7 hh25=>?_
  obtain ⟨hv25,e7⟩:=hh25
  obtain ⟨a31_,c31_,rfl,-⟩:=id (zbh hv25)
  refine sg 1 kj <| Qao (.bool true) 20 #[.slice a31_ (([num]).length) c31_,.slice a21_ 1 c21_] 33 rfl kj kj (Qm1 [num] _ _ _ _ _ (zbh hv25) (zbh (OwnN.ext ho21 (zbd (zbc W6) e7))) (show 1≤1000 from by decide)) fun W8 e8=>?_
  have x8:=zbg (zbg x6 e7) e8
  refine sg 2 kj ?_
  have r3_2:=(Qaa (Qaa hgc e1) e2)
  have r3_6:=(l6 _ _ _ (Qaa (rpn p4 r3_2 e3 l18) e5) dd)
  have r4_2:=(Qaa (Qaa hgl_ e1) e2)
  have r4_6:=(l6 _ _ _ (Qaa (rpn p4 r4_2 e3 l18) e5) dd)
  refine Qao (.int .i64 ((0:Nat):Int)) 22 #[pp g 0] 36 rfl kj kj (Qo4 g ge ce gc grp0 hg0 tl num i _ (Qaa (Qaa r1_6 e7) e8) (Qaa (Qaa r2_6 e7) e8) gl len cap lp (Qaa (Qaa r3_6 e7) e8) (Qaa (Qaa r4_6 e7) e8) cg cm hi hli s0 ts 0 ms (hch.ext x8)) fun W9 e9=>sg 9 kj <| sgN hK24 <| wp_ret ?_
  exact (show bodyPost _ _ _ .ret _ _ from ret1 (.bool true) rfl (Qax kj) ⟨rfl,(zbg x8 e9)⟩)
theorem Qnf (w : World):Calls Tryz.prog 9 #[.iface 49 (.int .i64 3)] w (Ret w (.int .i64 3)):=by
  refine enter 19 [(0,.iface 49 (.int .i64 3))] Tryz.func9 rfl rfl kj rfl <| sgB kj <| wp_seq_k fun K2 hK2=>sgB kj <| cond_false kj <| wp_skip <| hK2 _ _ <| sgB kj <| wp_seq_k fun K5 hK5=>sgB kj ?_
  refine cond_false kj <| wp_skip <| hK5 _ _ <| sgB kj <| wp_ret ?_
  with_reducible repeat first | refine goR1 ?_ | refine goR2 ?_
  exact (show bodyPost _ _ _ .ret _ _ from ret1 (.int .i64 3) rfl (Qax kj) ⟨rfl,(zbc w)⟩)
theorem Ql7 (w : World):Calls Tryz.prog 9 #[.iface 49 (.int .i64 6)] w (Ret w (.int .i64 6)):=by
  refine enter 19 [(0,.iface 49 (.int .i64 6))] Tryz.func9 rfl rfl kj rfl <| sgB kj <| wp_seq_k fun K2 hK2=>sgB kj <| cond_false kj <| wp_skip <| hK2 _ _ <| sgB kj <| wp_seq_k fun K5 hK5=>sgB kj ?_
  refine cond_false kj <| wp_skip <| hK5 _ _ <| sgB kj <| wp_ret ?_
  with_reducible repeat first | refine goR1 ?_ | refine goR2 ?_
  exact (show bodyPost _ _ _ .ret _ _ from ret1 (.int .i64 6) rfl (Qax kj) ⟨rfl,(zbc w)⟩)
end Pk
end
section
namespace Pk
open Go Go.RowKit
open Rely Auto Own Sha
open Cha
open Ae hiding run_storeQ
open Cn hiding nb_new run_extractT
def pS1 : List Int:=1::zab 31 0
theorem Qou : Qak pS1:=fun x hx=>by
  have:=zaR.1 (show (pS1.all fun x=>decide (0≤x)&&decide (x≤255))=true by decide) x hx
  simpa using this
theorem QmA {base k i:Nat} {sec grp:List Int} {num leaf:Int} {e:Ep} {x:Value} {W:World} (ho:OwE base [e] x W) (hE:EpIs base sec k grp num leaf e W) (hi:i<2^k) :
    ∃ (ge ce gc gl cap:Nat) (tl lp:Array Value) (cg cm:Nat),x=.slice (some ⟨ge,0,none⟩) 1 ce∧W.heap[ge]? = some (.cells (cat [#[pp gc 0],ints .u8 grp,#[.int .i64 num],#[.int .i64 leaf],tl]) 58) ∧
      W.heap[gc]? = some (.cells #[.slice (some ⟨gl,0,none⟩) (2^k) cap] 85)∧W.heap[gl]? = some (.cells lp 91)∧lp[i]? = some (pp cg 0)∧ChSt cg cm (Qbw sec k i) [] 0 [] W:=by
  obtain ⟨ge,ce,tl,h1,h2,h3⟩:=ho.tail
  obtain ⟨gc,g1,n1,l1⟩:=e
  obtain ⟨e1,e2,e3,w0,hw0,gc',gl,cap,lp,ns,hp,-,hn,hgc,hgl,hall,-,-⟩:=hE
  simp only at e1 e2 e3 hp
  subst e1 e2 e3
  simp only [Value.pointer.injEq,Option.some.injEq,Addr.mk.injEq,and_true] at hp
  subst hp
  obtain ⟨p,hp0⟩:∃ p,ns[i]? = some p:=⟨_,zay oo⟩
  obtain ⟨a1,a2,-,-⟩:=hall i p hp0
  exact ⟨ge,ce,_,gl,cap,tl,lp,p.1,p.2,h1,h3,hgc,hgl,a1,a2⟩
theorem Qm9 {b i:Nat} {num leaf:Int} {u vs:Value} {ls:List (List Int)} {W:World} (hu:OwG 64 3 b deC [⟨num,leaf,vs⟩] u W) (hvs:OwG 69 36 b lnC ls vs W) (hl32:∀ l∈ls,l.length=32) (hi:i<ls.length) :
    ∃ (gq cq gL cL:Nat) (tq P tl2:Array Value) (l:List Int),u=.slice (some ⟨gq,0,none⟩) 1 cq∧W.heap[gq]? = some (.cells (cat [#[.int .i64 num],#[.int .i64 leaf],#[.slice (some ⟨gL,0,none⟩) ls.length cL],tq]) 64)∧l.length=32∧P.size=36*i∧W.heap[gL]? = some (.cells (cat [P,ints .u8 l,#[.int .i64 0],tl2]) 69):=by
  obtain ⟨l,hl⟩:∃ l,ls[i]? = some l:=⟨_,zay hi⟩
  obtain ⟨gL,cL,P,tL,rfl,-,hP,rL⟩:=hvs.get (fun l h=>Qkm l (hl32 l h)) i l hl
  obtain ⟨gq,cq,Pq,tq,rfl,-,hPq,rq⟩:=hu.get (fun e _=>QkG e) 0 _ rfl
  obtain rfl:Pq=#[]:=Array.eq_empty_of_size_eq_zero hPq
  refine ⟨gq,cq,gL,cL,tq,P,#[.slice none 0 0]++(#[.slice none 0 0]++(#[.int .i64 0]++tL)),l,rfl,rq.trans (congrArg (fun z=>some (Obj.cells z 64)) ?_),hl32 l (List.mem_of_getElem? hl),hP,rL.trans (congrArg (fun z=>some (Obj.cells z 69)) ?_)⟩
  · exact zaS (by simp [deC,deA,cat])
  · exact zaS (by simp [lnC,lnA,cat])
theorem QdK {cg cm b pl:Nat} {s0 ts:List Int} {ms:List (Int×List Int)} {c:Array Value} {T:TypeId} {W W':World} (h:ChSt cg cm s0 ts pl ms W) (p:Puts W b W') (r:W.heap[b]? = some (.cells c T)) (hT:T≠100):ChSt cg cm s0 ts pl ms W':=by
  have hn:=nin r h hT
  simp only [zaL,zaM,or_false,not_or] at hn
  exact h.keep (p.2.2.2.2 cg (Ne.symm hn.1)) (p.2.2.2.2 cm (Ne.symm hn.2))
theorem Qm8 (n : Nat) (h:n<256):bits .xor .u8 (n:Int) 1≠(n:Int):=by
  have:=zaR.1 (show ((zaH 256).all fun n=>decide (bits .xor .u8 (n:Int) 1≠(n:Int)))=true by decide +kernel) n (zaT.2 h)
  exact of_decide_eq_true this
theorem QoM {grp : List Int} (hl:grp.length=32) (hb:Qak grp):grp.set 0 (bits .xor .u8 (nth grp 0) 1)≠grp:=by
  intro e
  have h0:0<grp.length:=by omega
  have h1:=congrArg (fun l:List Int=>l[0]?) e
  simp only [List.getElem?_set_self h0,zay h0,Option.some.injEq] at h1
  have h2:nth grp 0=grp[0]:=by simp [nth,zay h0]
  obtain ⟨b0,b1⟩:=hb _ (List.getElem_mem h0)
  rw [h2] at h1
  exact Qm8 grp[0].toNat oo (by rw [Int.toNat_of_nonneg b0]; exact h1)
theorem Qp2 (w : World):Calls Tryz.prog 9 #[.nilIface] w (Ret w (.int .i64 0)):=by
  refine enter 19 [(0,.nilIface)] Tryz.func9 rfl rfl kj rfl <| sgB kj <| wp_seq_k fun K2 hK2=>sgB kj <| cond_true kj <| sgB kj <| wp_ret ?_
  with_reducible repeat first | refine goR1 ?_ | refine goR2 ?_
  exact (show bodyPost _ _ _ .ret _ _ from ret1 (.int .i64 0) rfl (Qax kj) ⟨rfl,(zbc w)⟩)
set_option maxRecDepth 100000 in
theorem Qdw (tc tq th tr:TypeId) (w:World) (hc:w.heap[4]? = some (.cells (ints .u64 QaM) tc)) (hq:w.heap[3]? = some (.cells (ints .u64 Qa5) tq)) (hr4:w.heap[1]? = some (.cells (ints .i64 qQ) tr)) (hh4:w.heap[0]? = some (.cells (ints .u32 qH) th)) (hT:Seat.TabAt w) (grp:List Int) (hgl:grp.length=32) (num lv leaf n:Int)
    (hno:∀ (gr:List Int),gr.length=32→∀ (g:Nat) (W:World),W.heap[g]? = some (.cells (cat [#[.slice none 0 0],#[.bool false]]) 52)→Calls Tryz.prog 7 #[pp g 0,.agg (ints .u8 gr),.int .i64 num,.agg (ints .u8 pS1),.int .i64 lv,.int .i64 leaf] W (Ret W (.iface 49 (.int .i64 n))))
    (hrno:∀ (gr:List Int),gr.length=32→∀ W:World,Calls Tryz.prog 8 #[.agg (cat [ints .u8 (zab 32 0),#[.slice none 0 0],#[.bool false]]),.agg (ints .u8 gr),.int .i64 num,.agg (ints .u8 pS1),.int .i64 lv,.int .i64 leaf] W (Ret W (.tuple #[.agg (cat [ints .u8 (zab 32 0),#[.slice none 0 0],#[.bool false]]),.int .i64 n])))
    (hnum:∀ W:World,Calls Tryz.prog 9 #[.iface 49 (.int .i64 n)] W (Ret W (.int .i64 n))):Calls Tryz.prog 4 #[.agg (ints .u8 grp),.int .i64 num,.int .i64 lv,.int .i64 leaf] w (Ret w (.bool true)):=by
  refine enter 57 [(0,.agg (ints .u8 (grp))),(1,.int .i64 num),(2,.int .i64 lv),(3,.int .i64 leaf)] Tryz.func4 rfl rfl kj rfl <| sgC fun K5 hK5=>Qah (ints .u8 (grp)) 23 4 rfl kj kj fun g6 W1 l6 e1 r6_1=>?_
  have x1:=zbg (zbc w) e1
  refine sg 1 kj <| sgN hK5 <| wp_seq_k fun K7 hK7=>sgC fun K8 hK8=>Qao (.bool true) 5 #[] 15 rfl kj kj (QkT tc tq th tr _ (Qaa hc e1) (Qaa hq e1) (Qaa hr4 e1) (Qaa hh4 e1) (hT.ext x1)) fun W2 e2=>?_
  have x2:=zbg x1 e2
  refine sg 1 kj <| sgN hK8 <| cond_false kj <| wp_skip <| hK7 _ _ <| sgC fun K9 hK9=>Qau (fun v W'=>(fun v W=>∃ g,v=pp g 0∧W2.heap.size≤g∧W.heap[g]? = some (.cells (cat [#[.slice none 0 0],#[.bool false]]) 52)) v W'∧Ext W2 W') 6 #[] 17 rfl kj kj ((newB _).mono mo1) fun vv10 W3 hh10=>?_
  obtain ⟨hv10,e3⟩:=hh10
  have x3:=zbg x2 e3
  obtain ⟨gb,rfl,lsb,rsb⟩:=hv10
  have bsb:w.heap.size≤gb:=qT x2.size lsb
  refine sg 1 kj <| Qah (cat [ints .u8 (zab 32 0),#[.slice none 0 0],#[.bool false]]) 33 10 rfl kj kj fun g12 W4 l12 e4 r12_4=>?_
  have b12:=qT x3.size l12
  refine sg 1 kj <| Qag g12 _ (cat [ints .u8 (zab 32 0),#[.slice none 0 0],#[.bool false]]) 33 r12_4 rfl kj (Qaf 33 _ _ g12 33 _ _ r12_4 rfl kj kj (isz (n:=34) kj czR) (eqsz (n:=34) czR czR) (QaQ _ (by intro a ha; simp only [zaL,zaM,or_false] at ha; rcases ha with rfl | rfl | rfl; exact (Qat _ _); exact (Qaz _ rfl); exact (Qaz _ rfl)))) fun W5 p5 r12_5=>?_
  refine sgN hK9 <| wp_seq_k fun K13 hK13=>sgB kj <| wp_block <| wp_loop_rounds 4 ?_
  show zaF _ _ (Exit.then (zaG _ _ _ 3) _) _ _
  refine sgB kj <| sgT kj <| wp_seq_k fun K17 hK17=>wp_block <| sgB kj <| sgC fun K19 hK19=>sg 1 kj ?_
  have r6_2:=(Qaa r6_1 e2)
  have r6_3:=(Qaa r6_2 e3)
  have r6_5:=(rpn p5 r6_3 e4 l12)
  refine sv (.agg (ints .u8 (grp))) 23 (Qae 23 _ g6 23 _ _ r6_5 rfl kj kj (isz (n:=32) kj (izT hgl))) <| sg 4 kj ?_
  have r11_5:=(rpn p5 rsb e4 l12)
  refine Qao (.iface 49 (.int .i64 n)) 7 #[pp gb 0,.agg (ints .u8 (grp)),.int .i64 num,.agg (ints .u8 (pS1)),.int .i64 lv,.int .i64 leaf] 28 rfl kj kj (hno grp hgl gb _ r11_5) fun W6 e6=>sg 1 kj <| sgN hK19 <| sgC fun K20 hK20=>?_
  have r12_6:=(Qaa r12_5 e6)
  refine sv (.agg (cat [ints .u8 (zab 32 0),#[.slice none 0 0],#[.bool false]])) 30 (Qae 33 _ g12 33 _ _ r12_6 rfl kj kj (isz (n:=34) kj czR)) ?_
  have r6_6:=(Qaa r6_5 e6)
  refine sv (.agg (ints .u8 (grp))) 31 (Qae 23 _ g6 23 _ _ r6_6 rfl kj kj (isz (n:=32) kj (izT hgl))) <| sg 4 kj <| Qao (.tuple #[.agg (cat [ints .u8 (zab 32 0),#[.slice none 0 0],#[.bool false]]),.int .i64 n]) 8 #[.agg (cat [ints .u8 (zab 32 0),#[.slice none 0 0],#[.bool false]]),.agg (ints .u8 (grp)),.int .i64 num,.agg (ints .u8 (pS1)),.int .i64 lv,.int .i64 leaf] 36 rfl kj kj ((hrno grp hgl) _) fun W7 e7=>?_
  have x7:=zbg (zbg (zbf p5 (zbg x3 e4) b12) e6) e7
  refine sg 3 kj <| Qah (cat [ints .u8 (zab 32 0),#[.slice none 0 0],#[.bool false]]) 33 13 rfl kj kj fun g21 W8 l21 e8 r21_8=>Qag g21 _ (cat [ints .u8 (zab 32 0),#[.slice none 0 0],#[.bool false]]) 33 r21_8 rfl kj (Qaf 33 _ _ g21 33 _ _ r21_8 rfl kj kj (isz (n:=34) kj czR) (eqsz (n:=34) czR czR) (QaQ _ (by intro a ha; simp only [zaL,zaM,or_false] at ha; rcases ha with rfl | rfl | rfl; exact (Qat _ _); exact (Qaz _ rfl); exact (Qaz _ rfl)))) fun W9 p9 r21_9=>?_
  refine sg 1 kj <| sgN hK20 <| sgC fun K22 hK22=>sv (.agg (cat [ints .u8 (zab 32 0),#[.slice none 0 0],#[.bool false]])) 39 (Qae 33 _ g21 33 _ _ r21_9 rfl kj kj (isz (n:=34) kj czR)) ?_
  have r12_7:=(Qaa r12_6 e7)
  have r12_9:=(rpn p9 r12_7 e8 l21)
  refine Qag g12 _ (cat [ints .u8 (zab 32 0),#[.slice none 0 0],#[.bool false]]) 33 r12_9 rfl kj (Qaf 33 _ _ g12 33 _ _ r12_9 rfl kj kj (isz (n:=34) kj czR) (eqsz (n:=34) czR czR) (QaQ _ (by intro a ha; simp only [zaL,zaM,or_false] at ha; rcases ha with rfl | rfl | rfl; exact (Qat _ _); exact (Qaz _ rfl); exact (Qaz _ rfl)))) fun W10 p10 r12_10=>?_
  refine sgN hK22 <| wp_seq_k fun K23 hK23=>sgC fun K24 hK24=>sg 1 kj <| Qao (.int .i64 n) 9 #[.iface 49 (.int .i64 n)] 41 rfl kj kj ((hnum) _) fun W11 e11=>sg 1 kj <| sv (.bool false) 43 (Qac (u:=.bool ((n != n))) kj (congrArg zag (bne_eq_false_iff_eq.2 rfl))) <| sg 2 kj ?_
  have r12_11:=(Qaa r12_10 e11)
  refine sv (.agg (cat [ints .u8 (zab 32 0),#[.slice none 0 0],#[.bool false]])) 46 (Qae 33 _ g12 33 _ _ r12_11 rfl kj kj (isz (n:=34) kj czR)) ?_
  have r11_7:=(Qaa (Qaa r11_5 e6) e7)
  have r11_11:=(Qaa (zbe p10 (rpn p9 r11_7 e8 l21) (Qad rsb l12)) e11)
  refine Qao (.bool true) 10 #[pp gb 0,.agg (cat [ints .u8 (zab 32 0),#[.slice none 0 0],#[.bool false]])] 47 rfl kj kj (QfZ gb (zab 32 0) (qZ (n:=32)) _ r11_11) fun W12 e12=>sg 2 kj <| sgN hK24 <| cond_false kj <| wp_skip <| hK23 _ _ <| sgB kj <| cond_false kj <| wp_skip <| hK17 _ _ ?_
  refine sgA kj ?_
  show zaG _ _ _ 3 _ _
  show zaF _ _ (Exit.then (zaG _ _ _ 2) _) _ _
  refine sgB kj <| sgT kj <| wp_seq_k fun K28 hK28=>wp_block <| sgB kj <| sgC fun K30 hK30=>sg 1 kj ?_
  have r6_7:=(Qaa r6_6 e7)
  have r6_12:=(Qaa (Qaa (zbe p10 (rpn p9 r6_7 e8 l21) (Qad r6_3 l12)) e11) e12)
  refine sv (.agg (ints .u8 (grp))) 23 (Qae 23 _ g6 23 _ _ r6_12 rfl kj kj (isz (n:=32) kj (izT hgl))) <| sg 4 kj ?_
  have r11_12:=(Qaa r11_11 e12)
  refine Qao (.iface 49 (.int .i64 n)) 7 #[pp gb 0,.agg (ints .u8 (grp)),.int .i64 num,.agg (ints .u8 (pS1)),.int .i64 lv,.int .i64 leaf] 28 rfl kj kj (hno grp hgl gb _ r11_12) fun W13 e13=>sg 1 kj <| sgN hK30 <| sgC fun K31 hK31=>?_
  have r12_13:=(Qaa (Qaa r12_11 e12) e13)
  refine sv (.agg (cat [ints .u8 (zab 32 0),#[.slice none 0 0],#[.bool false]])) 30 (Qae 33 _ g12 33 _ _ r12_13 rfl kj kj (isz (n:=34) kj czR)) ?_
  have r6_13:=(Qaa r6_12 e13)
  refine sv (.agg (ints .u8 (grp))) 31 (Qae 23 _ g6 23 _ _ r6_13 rfl kj kj (isz (n:=32) kj (izT hgl))) <| sg 4 kj <| Qao (.tuple #[.agg (cat [ints .u8 (zab 32 0),#[.slice none 0 0],#[.bool false]]),.int .i64 n]) 8 #[.agg (cat [ints .u8 (zab 32 0),#[.slice none 0 0],#[.bool false]]),.agg (ints .u8 (grp)),.int .i64 num,.agg (ints .u8 (pS1)),.int .i64 lv,.int .i64 leaf] 36 rfl kj kj ((hrno grp hgl) _) fun W14 e14=>?_
  have x14:=zbg (zbg (zbg (zbg (zbf p10 (zbf p9 (zbg x7 e8) (qT x7.size l21)) b12) e11) e12) e13) e14
  refine sg 3 kj <| Qah (cat [ints .u8 (zab 32 0),#[.slice none 0 0],#[.bool false]]) 33 13 rfl kj kj fun g32 W15 l32 e15 r32_15=>Qag g32 _ (cat [ints .u8 (zab 32 0),#[.slice none 0 0],#[.bool false]]) 33 r32_15 rfl kj (Qaf 33 _ _ g32 33 _ _ r32_15 rfl kj kj (isz (n:=34) kj czR) (eqsz (n:=34) czR czR) (QaQ _ (by intro a ha; simp only [zaL,zaM,or_false] at ha; rcases ha with rfl | rfl | rfl; exact (Qat _ _); exact (Qaz _ rfl); exact (Qaz _ rfl)))) fun W16 p16 r32_16=>?_
  refine sg 1 kj <| sgN hK31 <| sgC fun K33 hK33=>sv (.agg (cat [ints .u8 (zab 32 0),#[.slice none 0 0],#[.bool false]])) 39 (Qae 33 _ g32 33 _ _ r32_16 rfl kj kj (isz (n:=34) kj czR)) ?_
  have r12_14:=(Qaa r12_13 e14)
  have r12_16:=(rpn p16 r12_14 e15 l32)
  refine Qag g12 _ (cat [ints .u8 (zab 32 0),#[.slice none 0 0],#[.bool false]]) 33 r12_16 rfl kj (Qaf 33 _ _ g12 33 _ _ r12_16 rfl kj kj (isz (n:=34) kj czR) (eqsz (n:=34) czR czR) (QaQ _ (by intro a ha; simp only [zaL,zaM,or_false] at ha; rcases ha with rfl | rfl | rfl; exact (Qat _ _); exact (Qaz _ rfl); exact (Qaz _ rfl)))) fun W17 p17 r12_17=>?_
  refine sgN hK33 <| wp_seq_k fun K34 hK34=>sgC fun K35 hK35=>sg 1 kj <| Qao (.int .i64 n) 9 #[.iface 49 (.int .i64 n)] 41 rfl kj kj ((hnum) _) fun W18 e18=>sg 1 kj <| sv (.bool false) 43 (Qac (u:=.bool ((n != n))) kj (congrArg zag (bne_eq_false_iff_eq.2 rfl))) <| sg 2 kj ?_
  have r12_18:=(Qaa r12_17 e18)
  refine sv (.agg (cat [ints .u8 (zab 32 0),#[.slice none 0 0],#[.bool false]])) 46 (Qae 33 _ g12 33 _ _ r12_18 rfl kj kj (isz (n:=34) kj czR)) ?_
  have r11_14:=(Qaa (Qaa r11_12 e13) e14)
  have r11_18:=(Qaa (zbe p17 (rpn p16 r11_14 e15 l32) (Qad rsb l12)) e18)
  refine Qao (.bool true) 10 #[pp gb 0,.agg (cat [ints .u8 (zab 32 0),#[.slice none 0 0],#[.bool false]])] 47 rfl kj kj (QfZ gb (zab 32 0) (qZ (n:=32)) _ r11_18) fun W19 e19=>sg 2 kj <| sgN hK35 <| cond_false kj <| wp_skip <| hK34 _ _ <| sgB kj <| cond_true kj <| Qaj <| sg 1 kj ?_
  have r6_14:=(Qaa r6_13 e14)
  have r6_19:=(Qaa (Qaa (zbe p17 (rpn p16 r6_14 e15 l32) (Qad r6_3 l12)) e18) e19)
  refine sv (.int .u8 (nth (grp) 0)) 53 (Qab 5 _ g6 0 23 _ (.int .u8 (nth (grp) 0)) _ r6_19 rfl kj (QaD _ _ _ (zal dd hgl.symm)) kj) <| sg 2 kj <| Qag g6 _ (ints .u8 ((grp).set 0 (bits .xor .u8 ((nth (grp) 0)) (1)))) 23 r6_19 rfl kj (Qa0 5 _ _ g6 0 23 _ _ r6_19 rfl kj kj kj (zal (show 0<32 by decide) hgl.symm)) fun W20 p20 r6_20=>Qas <| hK28 _ _ <| sgA kj ?_
  show zaG _ _ _ 2 _ _
  show zaF _ _ (Exit.then (zaG _ _ _ 1) _) _ _
  refine sgB kj <| sgT kj <| wp_seq_k fun K39 hK39=>wp_block <| sgB kj <| sgC fun K41 hK41=>sg 1 kj <| sv (.agg (ints .u8 ((grp).set 0 (bits .xor .u8 ((nth (grp) 0)) (1))))) 23 (Qae 23 _ g6 23 _ _ r6_20 rfl kj kj (isz (n:=32) kj (izT ((zaU ..).trans hgl)))) <| sg 4 kj ?_
  have r11_20:=(zbe p20 (Qaa r11_18 e19) (QaI r6_2 lsb))
  refine Qao (.iface 49 (.int .i64 n)) 7 #[pp gb 0,.agg (ints .u8 ((grp).set 0 (bits .xor .u8 ((nth (grp) 0)) (1)))),.int .i64 num,.agg (ints .u8 (pS1)),.int .i64 lv,.int .i64 leaf] 28 rfl kj kj (hno ((grp).set 0 (bits .xor .u8 ((nth (grp) 0)) (1))) ((zaU ..).trans hgl) gb _ r11_20) fun W21 e21=>sg 1 kj <| sgN hK41 <| sgC fun K42 hK42=>?_
  have r12_21:=(Qaa (zbe p20 (Qaa r12_18 e19) (QaI r6_3 l12)) e21)
  refine sv (.agg (cat [ints .u8 (zab 32 0),#[.slice none 0 0],#[.bool false]])) 30 (Qae 33 _ g12 33 _ _ r12_21 rfl kj kj (isz (n:=34) kj czR)) ?_
  refine sv (.agg (ints .u8 ((grp).set 0 (bits .xor .u8 ((nth (grp) 0)) (1))))) 31 (Qae 23 _ g6 23 _ _ (Qaa r6_20 e21) rfl kj kj (isz (n:=32) kj (izT ((zaU ..).trans hgl)))) <| sg 4 kj <| Qao (.tuple #[.agg (cat [ints .u8 (zab 32 0),#[.slice none 0 0],#[.bool false]]),.int .i64 n]) 8 #[.agg (cat [ints .u8 (zab 32 0),#[.slice none 0 0],#[.bool false]]),.agg (ints .u8 ((grp).set 0 (bits .xor .u8 ((nth (grp) 0)) (1)))),.int .i64 num,.agg (ints .u8 (pS1)),.int .i64 lv,.int .i64 leaf] 36 rfl kj kj ((hrno ((grp).set 0 (bits .xor .u8 ((nth (grp) 0)) (1))) ((zaU ..).trans hgl)) _) fun W22 e22=>?_
  have x22:=zbg (zbg (zbf p20 (zbg (zbg (zbf p17 (zbf p16 (zbg x14 e15) (qT x14.size l32)) b12) e18) e19) (qT (zbc w).size l6)) e21) e22
  refine sg 3 kj <| Qah (cat [ints .u8 (zab 32 0),#[.slice none 0 0],#[.bool false]]) 33 13 rfl kj kj fun g43 W23 l43 e23 r43_23=>Qag g43 _ (cat [ints .u8 (zab 32 0),#[.slice none 0 0],#[.bool false]]) 33 r43_23 rfl kj (Qaf 33 _ _ g43 33 _ _ r43_23 rfl kj kj (isz (n:=34) kj czR) (eqsz (n:=34) czR czR) (QaQ _ (by intro a ha; simp only [zaL,zaM,or_false] at ha; rcases ha with rfl | rfl | rfl; exact (Qat _ _); exact (Qaz _ rfl); exact (Qaz _ rfl)))) fun W24 p24 r43_24=>?_
  refine sg 1 kj <| sgN hK42 <| sgC fun K44 hK44=>sv (.agg (cat [ints .u8 (zab 32 0),#[.slice none 0 0],#[.bool false]])) 39 (Qae 33 _ g43 33 _ _ r43_24 rfl kj kj (isz (n:=34) kj czR)) ?_
  have r12_22:=(Qaa r12_21 e22)
  have r12_24:=(rpn p24 r12_22 e23 l43)
  refine Qag g12 _ (cat [ints .u8 (zab 32 0),#[.slice none 0 0],#[.bool false]]) 33 r12_24 rfl kj (Qaf 33 _ _ g12 33 _ _ r12_24 rfl kj kj (isz (n:=34) kj czR) (eqsz (n:=34) czR czR) (QaQ _ (by intro a ha; simp only [zaL,zaM,or_false] at ha; rcases ha with rfl | rfl | rfl; exact (Qat _ _); exact (Qaz _ rfl); exact (Qaz _ rfl)))) fun W25 p25 r12_25=>?_
  refine sgN hK44 <| wp_seq_k fun K45 hK45=>sgC fun K46 hK46=>sg 1 kj <| Qao (.int .i64 n) 9 #[.iface 49 (.int .i64 n)] 41 rfl kj kj ((hnum) _) fun W26 e26=>sg 1 kj <| sv (.bool false) 43 (Qac (u:=.bool ((n != n))) kj (congrArg zag (bne_eq_false_iff_eq.2 rfl))) <| sg 2 kj <| sv (.agg (cat [ints .u8 (zab 32 0),#[.slice none 0 0],#[.bool false]])) 46 (Qae 33 _ g12 33 _ _ (Qaa r12_25 e26) rfl kj kj (isz (n:=34) kj czR)) ?_
  have r11_22:=(Qaa (Qaa r11_20 e21) e22)
  refine Qao (.bool true) 10 #[pp gb 0,.agg (cat [ints .u8 (zab 32 0),#[.slice none 0 0],#[.bool false]])] 47 rfl kj kj (QfZ gb (zab 32 0) (qZ (n:=32)) _ (Qaa (zbe p25 (rpn p24 r11_22 e23 l43) (Qad rsb l12)) e26)) fun W27 e27=>sg 2 kj <| sgN hK46 <| cond_false kj <| wp_skip <| hK45 _ _ <| sgB kj <| cond_false kj <| wp_skip <| hK39 _ _ ?_
  refine sgA kj ?_
  show zaG _ _ _ 1 _ _
  show zaF _ _ (Exit.then (zaG _ _ _ 0) _) _ _
  refine sgB kj <| wp_seq_k fun K49 hK49=>cond_false kj <| wp_exit <| hK13 _ _ <| sgB kj <| wp_ret ?_
  exact (show bodyPost _ _ _ .ret _ _ from ret1 (.bool true) rfl (Qax kj) ⟨rfl,(zbg (zbg (zbf p25 (zbf p24 (zbg x22 e23) (qT x22.size l43)) b12) e26) e27)⟩)
end Pk
end
section
namespace Pk
open Go Go.RowKit
open Rely Auto Own Sha
open Cha
open Ae hiding run_storeQ
open Cn hiding nb_new run_extractT
set_option maxRecDepth 100000 in
theorem Qjk (tc tq th tr:TypeId) (w:World) (hc:w.heap[4]? = some (.cells (ints .u64 QaM) tc)) (hq:w.heap[3]? = some (.cells (ints .u64 Qa5) tq)) (hr4:w.heap[1]? = some (.cells (ints .i64 qQ) tr)) (hh4:w.heap[0]? = some (.cells (ints .u32 qH) th)) (hT:Seat.TabAt w) (grp:List Int) (hgl:grp.length=32) (hgb:Qak grp) (num:Int) (k i:Nat) (hk:k≤5) (hf:Seat.isTree ((2^k:Nat):Int)=true) (hi:i<2^k) (h3:0≤num) (h4:num≤4294967295):Calls Tryz.prog 4 #[.agg (ints .u8 grp),.int .i64 num,.int .i64 ((2^k:Nat):Int),.int .i64 (i:Int)] w (Ret w (.bool true)):=by
  refine enter 57 [(0,.agg (ints .u8 (grp))),(1,.int .i64 num),(2,.int .i64 ((2^k:Nat):Int)),(3,.int .i64 (i:Int))] Tryz.func4 rfl rfl kj rfl <| sgC fun K5 hK5=>Qah (ints .u8 (grp)) 23 4 rfl kj kj fun g6 W1 l6 e1 r6_1=>?_
  have x1:=zbg (zbc w) e1
  refine sg 1 kj <| sgN hK5 <| wp_seq_k fun K7 hK7=>sgC fun K8 hK8=>?_
  have r1_1:=(Qaa hc e1)
  have r2_1:=(Qaa hq e1)
  refine Qao (.bool true) 5 #[] 15 rfl kj kj (QkT tc tq th tr _ r1_1 r2_1 (Qaa hr4 e1) (Qaa hh4 e1) (hT.ext x1)) fun W2 e2=>?_
  have x2:=zbg x1 e2
  refine sg 1 kj <| sgN hK8 <| cond_false kj <| wp_skip <| hK7 _ _ <| sgC fun K9 hK9=>Qau (fun v W'=>(fun v W=>∃ g,v=pp g 0∧W2.heap.size≤g∧W.heap[g]? = some (.cells (cat [#[.slice none 0 0],#[.bool false]]) 52)) v W'∧Ext W2 W') 6 #[] 17 rfl kj kj ((newB _).mono mo1) fun vv10 W3 hh10=>?_
  obtain ⟨hv10,e3⟩:=hh10
  have x3:=zbg x2 e3
  obtain ⟨gb,rfl,lsb,rsb⟩:=hv10
  have bsb:w.heap.size≤gb:=qT x2.size lsb
  refine sg 1 kj <| Qah (cat [ints .u8 (zab 32 0),#[.slice none 0 0],#[.bool false]]) 33 10 rfl kj kj fun g12 W4 l12 e4 r12_4=>?_
  have b12:=qT x3.size l12
  refine sg 1 kj <| Qag g12 _ (cat [ints .u8 (zab 32 0),#[.slice none 0 0],#[.bool false]]) 33 r12_4 rfl kj (Qaf 33 _ _ g12 33 _ _ r12_4 rfl kj kj (isz (n:=34) kj czR) (eqsz (n:=34) czR czR) (QaQ _ (by intro a ha; simp only [zaL,zaM,or_false] at ha; rcases ha with rfl | rfl | rfl; exact (Qat _ _); exact (Qaz _ rfl); exact (Qaz _ rfl)))) fun W5 p5 r12_5=>?_
  have x5:=zbf p5 (zbg x3 e4) b12
  refine sgN hK9 <| wp_seq_k fun K13 hK13=>sgB kj <| wp_block <| wp_loop_rounds 4 ?_
  show zaF _ _ (Exit.then (zaG _ _ _ 3) _) _ _
  refine sgB kj <| sgT kj <| wp_seq_k fun K17 hK17=>wp_block <| sgB kj <| sgC fun K19 hK19=>sg 1 kj ?_
  have r6_2:=(Qaa r6_1 e2)
  have r6_3:=(Qaa r6_2 e3)
  have r6_5:=(rpn p5 r6_3 e4 l12)
  refine sv (.agg (ints .u8 (grp))) 23 (Qae 23 _ g6 23 _ _ r6_5 rfl kj kj (isz (n:=32) kj (izT hgl))) <| sg 4 kj ?_
  have r1_3:=(Qaa (Qaa r1_1 e2) e3)
  have r2_3:=(Qaa (Qaa r2_1 e2) e3)
  refine Qau (fun v W'=>v=.nilIface∧ExtB gb W5 W'∧∃ (e:Ep) (x:Value),W'.heap[gb]? = some (.cells (cat [#[x],#[.bool false]]) 52)∧OwE W5.heap.size [e] x W'∧EpIs W5.heap.size pS1 k grp num (i:Int) e W') 7 #[pp gb 0,.agg (ints .u8 (grp)),.int .i64 num,.agg (ints .u8 (pS1)),.int .i64 ((2^k:Nat):Int),.int .i64 (i:Int)] 28 rfl kj kj ((QhD gb grp pS1 num (i:Int) k hk hgl rfl Qou h3 h4 (zaV i) (zaW.2 hi) tc tq _ (rpn p5 rsb e4 l12) (rpn p5 r1_3 e4 l12) (rpn p5 r2_3 e4 l12) (hT.ext x5)).mono mo2) fun v W6 h20=>?_
  obtain ⟨rfl,q6,ep,xv,rbE,hO,hE⟩:=h20
  obtain ⟨ge,ce,gc,gl,cap,tl,lp,cg,cm,rfl,rge,rgc,rgl,hli,hch⟩:=QmA hO hE hi
  have r6_6:=(ExtB.row q6 r6_5 (Qad r6_2 lsb))
  have nq21_6:ge≠g6:=Qcg rge r6_6 dd
  have r12_6:=(ExtB.row q6 r12_5 (QaI rsb l12))
  have nq21_12:ge≠g12:=Qcg rge r12_6 dd
  have nq22_6:gc≠g6:=Qcg rgc r6_6 dd
  have nq22_12:gc≠g12:=Qcg rgc r12_6 dd
  have nq23_6:gl≠g6:=Qcg rgl r6_6 dd
  have nq23_12:gl≠g12:=Qcg rgl r12_6 dd
  refine sg 1 kj <| sgN hK19 <| sgC fun K24 hK24=>sv (.agg (cat [ints .u8 (zab 32 0),#[.slice none 0 0],#[.bool false]])) 30 (Qae 33 _ g12 33 _ _ r12_6 rfl kj kj (isz (n:=34) kj czR)) ?_
  refine sv (.agg (ints .u8 (grp))) 31 (Qae 23 _ g6 23 _ _ r6_6 rfl kj kj (isz (n:=32) kj (izT hgl))) <| sg 4 kj <| Qau (fun v W'=>(fun v W=>∃ (u vs:Value) (ls:List (List Int)),v=.tuple #[.agg (cat [ints .u8 grp,#[u],#[.bool false]]),.int .i64 0]∧OwG 64 3 W6.heap.size deC [⟨num,(i:Int),vs⟩] u W∧OwG 69 36 W6.heap.size lnC ls vs W∧ls.length=2^k∧∀ l∈ls,l.length=32) v W'∧Ext W6 W') 8 #[.agg (cat [ints .u8 (zab 32 0),#[.slice none 0 0],#[.bool false]]),.agg (ints .u8 (grp)),.int .i64 num,.agg (ints .u8 (pS1)),.int .i64 ((2^k:Nat):Int),.int .i64 (i:Int)] 36 rfl kj kj ((rin grp pS1 hgl rfl Qou k hk num (i:Int) hf (zaV i) (zaW.2 hi) h3 h4 _).mono mo1) fun vv25 W7 hh25=>?_
  obtain ⟨hv25,e7⟩:=hh25
  have x7:=zbg (ExtB.up x5 q6 bsb) e7
  obtain ⟨u,vs,ls,rfl,hu,hvs,hll,hl32_⟩:=hv25
  obtain ⟨gq,cq,gL,cL,tq,P,tl2,l,rfl,rgq,hl32,hP,rgL⟩:=Qm9 (i:=i) hu hvs hl32_ oo
  have r6_7:=(Qaa r6_6 e7)
  have nq26_6:gq≠g6:=Qcg rgq r6_7 dd
  have r12_7:=(Qaa r12_6 e7)
  have nq26_12:gq≠g12:=Qcg rgq r12_7 dd
  have nq27_6:gL≠g6:=Qcg rgL r6_7 dd
  have nq27_12:gL≠g12:=Qcg rgL r12_7 dd
  refine sg 3 kj <| Qah (cat [ints .u8 (zab 32 0),#[.slice none 0 0],#[.bool false]]) 33 13 rfl kj kj fun g28 W8 l28 e8 r28_8=>Qag g28 _ (cat [ints .u8 (grp),#[.slice (some ⟨gq,0,none⟩) 1 cq],#[.bool false]]) 33 r28_8 rfl kj (Qaf 33 _ _ g28 33 _ _ r28_8 rfl kj kj (isz (n:=34) kj (cz1 hgl)) (eqsz (n:=34) czR (cz1 hgl)) (QaQ _ (by intro a ha; simp only [zaL,zaM,or_false] at ha; rcases ha with rfl | rfl | rfl; exact (Qat _ _); exact (Qaz _ rfl); exact (Qaz _ rfl)))) fun W9 p9 r28_9=>?_
  have hch9:=QdK (hch.ext (zbd (zbd (zbc W6) e7) e8)) p9 r28_8 dd
  refine sg 1 kj <| sgN hK24 <| sgC fun K29 hK29=>sv (.agg (cat [ints .u8 (grp),#[.slice (some ⟨gq,0,none⟩) 1 cq],#[.bool false]])) 39 (Qae 33 _ g28 33 _ _ r28_9 rfl kj kj (isz (n:=34) kj (cz1 hgl))) ?_
  have r12_9:=(rpn p9 r12_7 e8 l28)
  refine Qag g12 _ (cat [ints .u8 (grp),#[.slice (some ⟨gq,0,none⟩) 1 cq],#[.bool false]]) 33 r12_9 rfl kj (Qaf 33 _ _ g12 33 _ _ r12_9 rfl kj kj (isz (n:=34) kj (cz1 hgl)) (eqsz (n:=34) czR (cz1 hgl)) (QaQ _ (by intro a ha; simp only [zaL,zaM,or_false] at ha; rcases ha with rfl | rfl | rfl; exact (Qat _ _); exact (Qaz _ rfl); exact (Qaz _ rfl)))) fun W10 p10 r12_10=>?_
  have hch10:=QdK hch9 p10 r12_9 dd
  refine sgN hK29 <| wp_seq_k fun K30 hK30=>sgC fun K31 hK31=>sg 1 kj <| Qao (.int .i64 0) 9 #[.nilIface] 41 rfl kj kj ((Qp2) _) fun W11 e11=>sg 4 kj ?_
  have r12_11:=(Qaa r12_10 e11)
  refine sv (.agg (cat [ints .u8 (grp),#[.slice (some ⟨gq,0,none⟩) 1 cq],#[.bool false]])) 46 (Qae 33 _ g12 33 _ _ r12_11 rfl kj kj (isz (n:=34) kj (cz1 hgl))) ?_
  have r11_7:=(Qaa rbE e7)
  have r11_11:=(Qaa (zbe p10 (rpn p9 r11_7 e8 l28) (Qad rsb l12)) e11)
  have r21_7:=(Qaa rge e7)
  have r21_11:=(Qaa (zbe p10 (rpn p9 r21_7 e8 l28) nq21_12) e11)
  have r22_7:=(Qaa rgc e7)
  have r22_11:=(Qaa (zbe p10 (rpn p9 r22_7 e8 l28) nq22_12) e11)
  have r23_7:=(Qaa rgl e7)
  have r23_11:=(Qaa (zbe p10 (rpn p9 r23_7 e8 l28) nq23_12) e11)
  have y10_11:=(zbd (zbc W10) e11)
  have r26_11:=(Qaa (zbe p10 (rpn p9 rgq e8 l28) nq26_12) e11)
  have r27_11:=(Qaa (zbe p10 (rpn p9 rgL e8 l28) nq27_12) e11)
  refine Qao (.bool true) 10 #[pp gb 0,.agg (cat [ints .u8 (grp),#[.slice (some ⟨gq,0,none⟩) 1 cq],#[.bool false]])] 47 rfl kj kj (QfY gb ge ce gc grp hgl tl num i _ r11_11 r21_11 gl (2^k) cap lp r22_11 r23_11 cg cm hi hli (Qbw pS1 k i) [] [] (hch10.ext y10_11) grp hgl gq cq gL ls.length cL (36*i) tq P tl2 l hl32 rfl hP oo r26_11 r27_11) fun W12 e12=>sg 2 kj <| sgN hK31 <| cond_false kj <| wp_skip <| hK30 _ _ <| sgB kj <| cond_false kj <| wp_skip <| hK17 _ _ ?_
  refine sgA kj ?_
  show zaG _ _ _ 3 _ _
  show zaF _ _ (Exit.then (zaG _ _ _ 2) _) _ _
  refine sgB kj <| sgT kj <| wp_seq_k fun K35 hK35=>wp_block <| sgB kj <| sgC fun K37 hK37=>sg 1 kj ?_
  have r6_12:=(Qaa (Qaa (zbe p10 (rpn p9 r6_7 e8 l28) (Qad r6_3 l12)) e11) e12)
  refine sv (.agg (ints .u8 (grp))) 23 (Qae 23 _ g6 23 _ _ r6_12 rfl kj kj (isz (n:=32) kj (izT hgl))) <| sg 4 kj ?_
  have r11_12:=(Qaa r11_11 e12)
  have r21_12:=(Qaa r21_11 e12)
  refine Qao (.iface 49 (.int .i64 6)) 7 #[pp gb 0,.agg (ints .u8 (grp)),.int .i64 num,.agg (ints .u8 (pS1)),.int .i64 ((2^k:Nat):Int),.int .i64 (i:Int)] 28 rfl kj kj (Qo0 gb ge ce gc grp hgl tl grp pS1 hgl rfl num (i:Int) ((2^k:Nat):Int) _ r11_12 r21_12 hf (zaV i) (zaW.2 hi) h3 h4) fun W13 e13=>sg 1 kj <| sgN hK37 <| sgC fun K38 hK38=>?_
  have r12_13:=(Qaa (Qaa r12_11 e12) e13)
  refine sv (.agg (cat [ints .u8 (grp),#[.slice (some ⟨gq,0,none⟩) 1 cq],#[.bool false]])) 30 (Qae 33 _ g12 33 _ _ r12_13 rfl kj kj (isz (n:=34) kj (cz1 hgl))) ?_
  have r6_13:=(Qaa r6_12 e13)
  refine sv (.agg (ints .u8 (grp))) 31 (Qae 23 _ g6 23 _ _ r6_13 rfl kj kj (isz (n:=32) kj (izT hgl))) <| sg 4 kj ?_
  have r26_13:=(Qaa (Qaa r26_11 e12) e13)
  refine Qao (.tuple #[.agg (cat [ints .u8 (grp),#[.slice (some ⟨gq,0,none⟩) 1 cq],#[.bool false]]),.int .i64 6]) 8 #[.agg (cat [ints .u8 (grp),#[.slice (some ⟨gq,0,none⟩) 1 cq],#[.bool false]]),.agg (ints .u8 (grp)),.int .i64 num,.agg (ints .u8 (pS1)),.int .i64 ((2^k:Nat):Int),.int .i64 (i:Int)] 36 rfl kj kj (QmL grp grp pS1 hgl hgl rfl gq cq (.slice (some ⟨gL,0,none⟩) ls.length cL) tq num (i:Int) ((2^k:Nat):Int) _ hf (zaV i) (zaW.2 hi) h3 h4 r26_13 rfl) fun W14 e14=>?_
  have x14:=zbg (zbg (zbg (zbg (zbf p10 (zbf p9 (zbg x7 e8) (qT x7.size l28)) b12) e11) e12) e13) e14
  refine sg 3 kj <| Qah (cat [ints .u8 (zab 32 0),#[.slice none 0 0],#[.bool false]]) 33 13 rfl kj kj fun g39 W15 l39 e15 r39_15=>Qag g39 _ (cat [ints .u8 (grp),#[.slice (some ⟨gq,0,none⟩) 1 cq],#[.bool false]]) 33 r39_15 rfl kj (Qaf 33 _ _ g39 33 _ _ r39_15 rfl kj kj (isz (n:=34) kj (cz1 hgl)) (eqsz (n:=34) czR (cz1 hgl)) (QaQ _ (by intro a ha; simp only [zaL,zaM,or_false] at ha; rcases ha with rfl | rfl | rfl; exact (Qat _ _); exact (Qaz _ rfl); exact (Qaz _ rfl)))) fun W16 p16 r39_16=>?_
  have hch16:=QdK (hch10.ext (zbd (zbd (zbd (zbd y10_11 e12) e13) e14) e15)) p16 r39_15 dd
  refine sg 1 kj <| sgN hK38 <| sgC fun K40 hK40=>sv (.agg (cat [ints .u8 (grp),#[.slice (some ⟨gq,0,none⟩) 1 cq],#[.bool false]])) 39 (Qae 33 _ g39 33 _ _ r39_16 rfl kj kj (isz (n:=34) kj (cz1 hgl))) ?_
  have r12_14:=(Qaa r12_13 e14)
  have r12_16:=(rpn p16 r12_14 e15 l39)
  refine Qag g12 _ (cat [ints .u8 (grp),#[.slice (some ⟨gq,0,none⟩) 1 cq],#[.bool false]]) 33 r12_16 rfl kj (Qaf 33 _ _ g12 33 _ _ r12_16 rfl kj kj (isz (n:=34) kj (cz1 hgl)) (eqsz (n:=34) (cz1 hgl) (cz1 hgl)) (QaQ _ (by intro a ha; simp only [zaL,zaM,or_false] at ha; rcases ha with rfl | rfl | rfl; exact (Qat _ _); exact (Qaz _ rfl); exact (Qaz _ rfl)))) fun W17 p17 r12_17=>?_
  have hch17:=QdK hch16 p17 r12_16 dd
  refine sgN hK40 <| wp_seq_k fun K41 hK41=>sgC fun K42 hK42=>sg 1 kj <| Qao (.int .i64 6) 9 #[.iface 49 (.int .i64 6)] 41 rfl kj kj ((Ql7) _) fun W18 e18=>sg 4 kj ?_
  have r12_18:=(Qaa r12_17 e18)
  refine sv (.agg (cat [ints .u8 (grp),#[.slice (some ⟨gq,0,none⟩) 1 cq],#[.bool false]])) 46 (Qae 33 _ g12 33 _ _ r12_18 rfl kj kj (isz (n:=34) kj (cz1 hgl))) ?_
  have r11_14:=(Qaa (Qaa r11_12 e13) e14)
  have r11_18:=(Qaa (zbe p17 (rpn p16 r11_14 e15 l39) (Qad rsb l12)) e18)
  have r21_14:=(Qaa (Qaa r21_12 e13) e14)
  have r21_18:=(Qaa (zbe p17 (rpn p16 r21_14 e15 l39) nq21_12) e18)
  have r22_14:=(Qaa (Qaa (Qaa r22_11 e12) e13) e14)
  have r22_18:=(Qaa (zbe p17 (rpn p16 r22_14 e15 l39) nq22_12) e18)
  have r23_14:=(Qaa (Qaa (Qaa r23_11 e12) e13) e14)
  have r23_18:=(Qaa (zbe p17 (rpn p16 r23_14 e15 l39) nq23_12) e18)
  have y17_18:=(zbd (zbc W17) e18)
  have r26_14:=(Qaa r26_13 e14)
  have r26_18:=(Qaa (zbe p17 (rpn p16 r26_14 e15 l39) nq26_12) e18)
  have r27_14:=(Qaa (Qaa (Qaa r27_11 e12) e13) e14)
  have r27_18:=(Qaa (zbe p17 (rpn p16 r27_14 e15 l39) nq27_12) e18)
  refine Qao (.bool true) 10 #[pp gb 0,.agg (cat [ints .u8 (grp),#[.slice (some ⟨gq,0,none⟩) 1 cq],#[.bool false]])] 47 rfl kj kj (QfY gb ge ce gc grp hgl tl num i _ r11_18 r21_18 gl (2^k) cap lp r22_18 r23_18 cg cm hi hli (Qbw pS1 k i) [] [] (hch17.ext y17_18) grp hgl gq cq gL ls.length cL (36*i) tq P tl2 l hl32 rfl hP oo r26_18 r27_18) fun W19 e19=>sg 2 kj <| sgN hK42 <| cond_false kj <| wp_skip <| hK41 _ _ <| sgB kj <| cond_true kj <| Qaj <| sg 1 kj ?_
  have r6_14:=(Qaa r6_13 e14)
  have r6_19:=(Qaa (Qaa (zbe p17 (rpn p16 r6_14 e15 l39) (Qad r6_3 l12)) e18) e19)
  refine sv (.int .u8 (nth (grp) 0)) 53 (Qab 5 _ g6 0 23 _ (.int .u8 (nth (grp) 0)) _ r6_19 rfl kj (QaD _ _ _ (zal dd hgl.symm)) kj) <| sg 2 kj <| Qag g6 _ (ints .u8 ((grp).set 0 (bits .xor .u8 ((nth (grp) 0)) (1)))) 23 r6_19 rfl kj (Qa0 5 _ _ g6 0 23 _ _ r6_19 rfl kj kj kj (zal (show 0<32 by decide) hgl.symm)) fun W20 p20 r6_20=>?_
  have hch20:=QdK (hch17.ext (zbd y17_18 e19)) p20 r6_19 dd
  have hgg:((grp).set 0 (bits .xor .u8 ((nth (grp) 0)) (1)))≠grp:=QoM hgl hgb
  refine Qas <| hK35 _ _ <| sgA kj ?_
  show zaG _ _ _ 2 _ _
  show zaF _ _ (Exit.then (zaG _ _ _ 1) _) _ _
  refine sgB kj <| sgT kj <| wp_seq_k fun K46 hK46=>wp_block <| sgB kj <| sgC fun K48 hK48=>sg 1 kj <| sv (.agg (ints .u8 ((grp).set 0 (bits .xor .u8 ((nth (grp) 0)) (1))))) 23 (Qae 23 _ g6 23 _ _ r6_20 rfl kj kj (isz (n:=32) kj (izT ((zaU ..).trans hgl)))) <| sg 4 kj ?_
  have r11_20:=(zbe p20 (Qaa r11_18 e19) (QaI r6_2 lsb))
  have r21_20:=(zbe p20 (Qaa r21_18 e19) nq21_6)
  refine Qao (.iface 49 (.int .i64 6)) 7 #[pp gb 0,.agg (ints .u8 ((grp).set 0 (bits .xor .u8 ((nth (grp) 0)) (1)))),.int .i64 num,.agg (ints .u8 (pS1)),.int .i64 ((2^k:Nat):Int),.int .i64 (i:Int)] 28 rfl kj kj (Qo0 gb ge ce gc grp hgl tl ((grp).set 0 (bits .xor .u8 ((nth (grp) 0)) (1))) pS1 ((zaU ..).trans hgl) rfl num (i:Int) ((2^k:Nat):Int) _ r11_20 r21_20 hf (zaV i) (zaW.2 hi) h3 h4) fun W21 e21=>sg 1 kj <| sgN hK48 <| sgC fun K49 hK49=>?_
  have r12_21:=(Qaa (zbe p20 (Qaa r12_18 e19) (QaI r6_3 l12)) e21)
  refine sv (.agg (cat [ints .u8 (grp),#[.slice (some ⟨gq,0,none⟩) 1 cq],#[.bool false]])) 30 (Qae 33 _ g12 33 _ _ r12_21 rfl kj kj (isz (n:=34) kj (cz1 hgl))) ?_
  refine sv (.agg (ints .u8 ((grp).set 0 (bits .xor .u8 ((nth (grp) 0)) (1))))) 31 (Qae 23 _ g6 23 _ _ (Qaa r6_20 e21) rfl kj kj (isz (n:=32) kj (izT ((zaU ..).trans hgl)))) <| sg 4 kj ?_
  have r26_21:=(Qaa (zbe p20 (Qaa r26_18 e19) nq26_6) e21)
  refine Qao (.tuple #[.agg (cat [ints .u8 (grp),#[.slice (some ⟨gq,0,none⟩) 1 cq],#[.bool false]]),.int .i64 6]) 8 #[.agg (cat [ints .u8 (grp),#[.slice (some ⟨gq,0,none⟩) 1 cq],#[.bool false]]),.agg (ints .u8 ((grp).set 0 (bits .xor .u8 ((nth (grp) 0)) (1)))),.int .i64 num,.agg (ints .u8 (pS1)),.int .i64 ((2^k:Nat):Int),.int .i64 (i:Int)] 36 rfl kj kj (QmK grp ((grp).set 0 (bits .xor .u8 ((nth (grp) 0)) (1))) pS1 hgl ((zaU ..).trans hgl) rfl gq cq (.slice (some ⟨gL,0,none⟩) ls.length cL) tq num (i:Int) ((2^k:Nat):Int) _ hf (zaV i) (zaW.2 hi) h3 h4 r26_21 hgg) fun W22 e22=>?_
  have x22:=zbg (zbg (zbf p20 (zbg (zbg (zbf p17 (zbf p16 (zbg x14 e15) (qT x14.size l39)) b12) e18) e19) (qT (zbc w).size l6)) e21) e22
  refine sg 3 kj <| Qah (cat [ints .u8 (zab 32 0),#[.slice none 0 0],#[.bool false]]) 33 13 rfl kj kj fun g50 W23 l50 e23 r50_23=>Qag g50 _ (cat [ints .u8 (grp),#[.slice (some ⟨gq,0,none⟩) 1 cq],#[.bool false]]) 33 r50_23 rfl kj (Qaf 33 _ _ g50 33 _ _ r50_23 rfl kj kj (isz (n:=34) kj (cz1 hgl)) (eqsz (n:=34) czR (cz1 hgl)) (QaQ _ (by intro a ha; simp only [zaL,zaM,or_false] at ha; rcases ha with rfl | rfl | rfl; exact (Qat _ _); exact (Qaz _ rfl); exact (Qaz _ rfl)))) fun W24 p24 r50_24=>?_
  have hch24:=QdK (hch20.ext (zbd (zbd (zbd (zbc W20) e21) e22) e23)) p24 r50_23 dd
  refine sg 1 kj <| sgN hK49 <| sgC fun K51 hK51=>sv (.agg (cat [ints .u8 (grp),#[.slice (some ⟨gq,0,none⟩) 1 cq],#[.bool false]])) 39 (Qae 33 _ g50 33 _ _ r50_24 rfl kj kj (isz (n:=34) kj (cz1 hgl))) ?_
  have r12_22:=(Qaa r12_21 e22)
  have r12_24:=(rpn p24 r12_22 e23 l50)
  refine Qag g12 _ (cat [ints .u8 (grp),#[.slice (some ⟨gq,0,none⟩) 1 cq],#[.bool false]]) 33 r12_24 rfl kj (Qaf 33 _ _ g12 33 _ _ r12_24 rfl kj kj (isz (n:=34) kj (cz1 hgl)) (eqsz (n:=34) (cz1 hgl) (cz1 hgl)) (QaQ _ (by intro a ha; simp only [zaL,zaM,or_false] at ha; rcases ha with rfl | rfl | rfl; exact (Qat _ _); exact (Qaz _ rfl); exact (Qaz _ rfl)))) fun W25 p25 r12_25=>?_
  have hch25:=QdK hch24 p25 r12_24 dd
  refine sgN hK51 <| wp_seq_k fun K52 hK52=>sgC fun K53 hK53=>sg 1 kj <| Qao (.int .i64 6) 9 #[.iface 49 (.int .i64 6)] 41 rfl kj kj ((Ql7) _) fun W26 e26=>sg 4 kj <| sv (.agg (cat [ints .u8 (grp),#[.slice (some ⟨gq,0,none⟩) 1 cq],#[.bool false]])) 46 (Qae 33 _ g12 33 _ _ (Qaa r12_25 e26) rfl kj kj (isz (n:=34) kj (cz1 hgl))) ?_
  have r11_22:=(Qaa (Qaa r11_20 e21) e22)
  have r21_22:=(Qaa (Qaa r21_20 e21) e22)
  have r22_22:=(Qaa (Qaa (zbe p20 (Qaa r22_18 e19) nq22_6) e21) e22)
  have r23_22:=(Qaa (Qaa (zbe p20 (Qaa r23_18 e19) nq23_6) e21) e22)
  have r26_22:=(Qaa r26_21 e22)
  have r27_22:=(Qaa (Qaa (zbe p20 (Qaa r27_18 e19) nq27_6) e21) e22)
  refine Qao (.bool true) 10 #[pp gb 0,.agg (cat [ints .u8 (grp),#[.slice (some ⟨gq,0,none⟩) 1 cq],#[.bool false]])] 47 rfl kj kj (QfY gb ge ce gc grp hgl tl num i _ (Qaa (zbe p25 (rpn p24 r11_22 e23 l50) (Qad rsb l12)) e26) (Qaa (zbe p25 (rpn p24 r21_22 e23 l50) nq21_12) e26) gl (2^k) cap lp (Qaa (zbe p25 (rpn p24 r22_22 e23 l50) nq22_12) e26) (Qaa (zbe p25 (rpn p24 r23_22 e23 l50) nq23_12) e26) cg cm hi hli (Qbw pS1 k i) [] [] (hch25.ext (zbd (zbc W25) e26)) grp hgl gq cq gL ls.length cL (36*i) tq P tl2 l hl32 rfl hP oo (Qaa (zbe p25 (rpn p24 r26_22 e23 l50) nq26_12) e26) (Qaa (zbe p25 (rpn p24 r27_22 e23 l50) nq27_12) e26)) fun W27 e27=>sg 2 kj <| sgN hK53 <| cond_false kj <| wp_skip <| hK52 _ _ <| sgB kj <| cond_false kj <| wp_skip <| hK46 _ _ ?_
  refine sgA kj ?_
  show zaG _ _ _ 1 _ _
  show zaF _ _ (Exit.then (zaG _ _ _ 0) _) _ _
  refine sgB kj <| wp_seq_k fun K56 hK56=>cond_false kj <| wp_exit <| hK13 _ _ <| sgB kj <| wp_ret ?_
  exact (show bodyPost _ _ _ .ret _ _ from ret1 (.bool true) rfl (Qax kj) ⟨rfl,(zbg (zbg (zbf p25 (zbf p24 (zbg x22 e23) (qT x22.size l50)) b12) e26) e27)⟩)
end Pk
end
section
namespace Pk
open Go Go.RowKit
open Rely Auto Own Sha
open Cha
open Ae hiding run_storeQ
open Cn hiding nb_new run_extractT
theorem Qjl (tc tq th tr:TypeId) (w:World) (hc:w.heap[4]? = some (.cells (ints .u64 QaM) tc)) (hq:w.heap[3]? = some (.cells (ints .u64 Qa5) tq)) (hr4:w.heap[1]? = some (.cells (ints .i64 qQ) tr)) (hh4:w.heap[0]? = some (.cells (ints .u32 qH) th)) (hT:Seat.TabAt w) (grp:List Int) (hgl:grp.length=32) (hgb:Qak grp) (num lv leaf:Int):Calls Tryz.prog 4 #[.agg (ints .u8 grp),.int .i64 num,.int .i64 lv,.int .i64 leaf] w (Ret w (.bool true)):=by
  cases hf:Seat.isTree lv
  · exact Qdw tc tq th tr w hc hq hr4 hh4 hT grp hgl num lv leaf 3 (fun gr h g W hg=>Qp5 g gr pS1 h rfl num leaf lv W hg hf) (fun gr h W=>Qoo _ gr pS1 (qZ (n:=32)) h rfl none 0 0 num leaf lv W hf) Qnf
  rcases zaX leaf 0 with h1 | h1
  · exact Qdw tc tq th tr w hc hq hr4 hh4 hT grp hgl num lv leaf 3 (fun gr h g W hg=>Qp4 g gr pS1 h rfl num leaf lv W hg hf h1) (fun gr h W=>Qon _ gr pS1 (qZ (n:=32)) h rfl none 0 0 num leaf lv W hf h1) Qnf
  rcases zaX leaf lv with h2 | h2
  rotate_left
  · exact Qdw tc tq th tr w hc hq hr4 hh4 hT grp hgl num lv leaf 3 (fun gr h g W hg=>Qp3 g gr pS1 h rfl num leaf lv W hg hf h1 h2) (fun gr h W=>Qom _ gr pS1 (qZ (n:=32)) h rfl none 0 0 num leaf lv W hf h1 h2) Qnf
  rcases zaX num 0 with h3 | h3
  · exact Qdw tc tq th tr w hc hq hr4 hh4 hT grp hgl num lv leaf 6 (fun gr h g W hg=>Qo2 g gr pS1 h rfl num leaf lv W hg hf h1 h2 h3) (fun gr h W=>QmN _ gr pS1 (qZ (n:=32)) h rfl none 0 0 num leaf lv W hf h1 h2 h3) Ql7
  rcases zaX 4294967295 num with h4 | h4
  · exact Qdw tc tq th tr w hc hq hr4 hh4 hT grp hgl num lv leaf 6 (fun gr h g W hg=>Qo1 g gr pS1 h rfl num leaf lv W hg hf h1 h2 h3 h4) (fun gr h W=>QmM _ gr pS1 (qZ (n:=32)) h rfl none 0 0 num leaf lv W hf h1 h2 h3 h4) Ql7
  obtain ⟨i,rfl⟩:=Int.eq_ofNat_of_zero_le h1
  obtain ⟨k,hk,rfl⟩:∃ k:Nat,k≤5∧lv=((2^k:Nat):Int):=by
    rcases Seat.isTree_cases hf with rfl | rfl | rfl | rfl | rfl | rfl
    · exact ⟨0,by decide,rfl⟩
    · exact ⟨1,by decide,rfl⟩
    · exact ⟨2,by decide,rfl⟩
    · exact ⟨3,by decide,rfl⟩
    · exact ⟨4,by decide,rfl⟩
    · exact ⟨5,by decide,rfl⟩
  exact Qjk tc tq th tr w hc hq hr4 hh4 hT grp hgl hgb num k i hk hf (zaW.1 h2) h3 h4
set_option maxRecDepth 100000 in
theorem may_C (tc tq th tr:TypeId) (w:World) (hc:w.heap[4]? = some (.cells (ints .u64 QaM) tc)) (hq:w.heap[3]? = some (.cells (ints .u64 Qa5) tq)) (hr4:w.heap[1]? = some (.cells (ints .i64 qQ) tr)) (hh4:w.heap[0]? = some (.cells (ints .u32 qH) th)) (hT:Seat.TabAt w) (grp:List Int) (hgl:grp.length=32) (hgb:Qak grp) (num lv leaf:Int):Calls Tryz.prog 3 #[.agg (cat [ints .u8 (grp),#[.int .i64 num],#[.int .i64 lv],#[.int .i64 leaf]])] w (Ret w (.bool true)):=by
  refine enter 12 [(0,.agg (cat [ints .u8 (grp),#[.int .i64 num],#[.int .i64 lv],#[.int .i64 leaf]]))] Tryz.func3 rfl rfl kj rfl <| sgC fun K5 hK5=>Qah (cat [ints .u8 (grp),#[.int .i64 num],#[.int .i64 lv],#[.int .i64 leaf]]) 25 1 rfl kj kj fun g6 W1 l6 e1 r6_1=>?_
  have x1:=zbg (zbc w) e1
  have b6:=qT (zbc w).size l6
  refine sg 1 kj <| sgN hK5 <| sgC fun K7 hK7=>sg 1 kj <| sv (.agg (ints .u8 (grp))) 4 (Qa4 23 _ g6 0 25 _ _ _ r6_1 rfl kj (Qap [] [ints .u8 (grp)] [#[.int .i64 num],#[.int .i64 lv],#[.int .i64 leaf]] 0 kj) kj (isz (n:=32) kj (izT hgl))) <| sg 1 kj <| sv (.int .i64 num) 6 (Qab 3 _ g6 32 25 _ (.int .i64 num) _ r6_1 rfl kj (Qap [ints .u8 (grp)] [#[.int .i64 num]] [#[.int .i64 lv],#[.int .i64 leaf]] 32 (izT hgl) 0 _ rfl) kj) <| sg 1 kj <| sv (.int .i64 lv) 8 (Qab 3 _ g6 33 25 _ (.int .i64 lv) _ r6_1 rfl kj (Qap [ints .u8 (grp),#[.int .i64 num]] [#[.int .i64 lv]] [#[.int .i64 leaf]] 33 (cz1 hgl) 0 _ rfl) kj) ?_
  refine sg 1 kj <| sv (.int .i64 leaf) 10 (Qab 3 _ g6 34 25 _ (.int .i64 leaf) _ r6_1 rfl kj (Qap [ints .u8 (grp),#[.int .i64 num],#[.int .i64 lv]] [#[.int .i64 leaf]] [] 34 (cz1 hgl) 0 _ rfl) kj) ?_
  refine Qao (.bool true) 4 #[.agg (ints .u8 (grp)),.int .i64 num,.int .i64 lv,.int .i64 leaf] 11 rfl kj kj (Qjl tc tq th tr _ (Qaa hc e1) (Qaa hq e1) (Qaa hr4 e1) (Qaa hh4 e1) (hT.ext x1) grp hgl hgb num lv leaf) fun W2 e2=>sg 1 kj <| sgN hK7 <| wp_ret ?_
  exact (show bodyPost _ _ _ .ret _ _ from ret1 (.bool true) rfl (Qax kj) ⟨rfl,(zbg x1 e2)⟩)
end Pk
end
section
namespace Auto
open Go Go.RowKit Go.WideShapes
open Rely
section
variable {H : Type} {enc : TypeId × Value → H} {P : Program} {W w : World} {r : Reach} {base b0 : Nat} {sp : Nat → Bool} {held : Bool}
theorem open_raw {n : Nat} {t e:TypeId} {cs:List Value} {fuel:Nat} {x:DataW H×List MemPlace} (ht:P.underlying t=some (.array n e)) (he:P.underlying e=some (.int .u8)) (hce:P.cellsOf e=1) (hct:P.cellsOf t=n)
    (hf:DataW.trod enc P w b0 sp held fuel t cs=some x):∃ xs:List Int,cs=xs.map (zam .u8)∧xs.length=n∧Qak xs:=by
  obtain ⟨xs,m,-,-,hl,hn,hx⟩:=DataW.trod_array ht hf
  have hcs:cs.length=n:=by simpa [hct] using hl
  have each:∀ i,i<n→∃ z:Int,cs[i]? = some (.int .u8 z)∧(0≤z∧z≤255):=by
    intro i hi
    have h1:=hx i hi
    rw [hce,Nat.mul_one] at h1
    have hlt:i<cs.length:=by omega
    have h2:cs.drop i=cs[i]::cs.drop (i+1):=List.drop_eq_getElem_cons hlt
    have h1:DataW.trod enc P w b0 sp held m e ((cs.drop i).take 1)=xs[i]?:=h1
    rw [h2] at h1
    simp only [zaB,zaC] at h1
    obtain ⟨y,hy⟩:∃ y,xs[i]? = some y:=⟨xs[i],by simp [hn,hi]⟩
    rw [hy] at h1
    obtain ⟨z,hc,-,hw⟩:=DataW.trod_int he h1
    refine ⟨z,?_,?_⟩
    · rw [zay hlt]
      simp only [List.cons.injEq] at hc
      rw [hc.1]
    · simpa [Lit.wf,IntKind.min,IntKind.max,IntKind.signed,IntKind.bits] using hw
  have all:∀ (l:List Value),(∀ i,i<l.length→∃ z:Int,l[i]? = some (.int .u8 z)∧(0≤z∧z≤255))→∃ zs:List Int,l=zs.map (zam .u8)∧Qak zs:=by
    intro l
    induction l with
    | nil=>exact fun _=>⟨[],rfl,fun x hx=>by simp at hx⟩
    | cons a l ih =>
      intro h
      obtain ⟨zs,h1,h2⟩:=ih fun i hi=>by simpa using h (i+1) (by simp; omega)
      obtain ⟨z,h3,h4⟩:=h 0 (by simp)
      simp only [List.getElem?_cons_zero,Option.some.injEq] at h3
      refine ⟨z::zs,by rw [h3,h1]; rfl,fun x hx=>?_⟩
      rcases zaL.1 hx with e | e
      · rw [e]; exact h4
      · exact h2 x e
  obtain ⟨zs,h1,h2⟩:=all cs fun i hi=>each i oo
  exact ⟨zs,h1,by rw [←hcs,h1,za1],h2⟩
theorem open_st4 {t : TypeId} {f0 f1 f2 f3:Field} {v:Value} {d:DataW H} {p:List MemPlace} {n0 n1 n2 n3:Nat} (hs:P.underlying t=some (.struct #[f0,f1,f2,f3]))
    (ho:f0.offset=0∧f1.offset=n0∧f2.offset=n0+n1∧f3.offset=n0+n1+n2) (hc:P.cellsOf f0.type=n0∧P.cellsOf f1.type=n1∧P.cellsOf f2.type=n2∧P.cellsOf f3.type=n3) (hC:P.cellsOf t=n0+n1+n2+n3)
    (hv:Value.okWide P W r base t v) (h:DataW.Trod enc P w b0 sp held t v d p) :
    ∃ (A B C D:List Value) (y0 y1 y2 y3:DataW H×List MemPlace) (n:Nat),v=.agg (A++B++C++D).toArray ∧
      DataW.trod enc P w b0 sp held n f0.type A=some y0∧DataW.trod enc P w b0 sp held n f1.type B=some y1∧DataW.trod enc P w b0 sp held n f2.type C=some y2∧DataW.trod enc P w b0 sp held n f3.type D=some y3:=by
  obtain ⟨cs,rfl,hsz⟩:=okWide_struct hs hv
  obtain ⟨fuel,hf⟩:=h
  obtain ⟨y0,y1,y2,y3,n,-,hlen,h0,h1,h2,h3⟩:=Joins.trod_struct4 hs hf
  obtain ⟨o0,o1,o2,o3⟩:=ho
  obtain ⟨c0,c1,c2,c3⟩:=hc
  rw [o0,c0] at h0
  rw [o1,c1] at h1
  rw [o2,c2] at h2
  rw [o3,c3] at h3
  refine ⟨_,_,_,_,y0,y1,y2,y3,n,?_,h0,h1,h2,h3⟩
  congr 1
  have hl:cs.toList.length=n0+n1+n2+n3:=by rw [za2,hsz,hC]
  apply zaS
  show cs.toList=_
  simp only [Value.cells,zaE]
  generalize cs.toList=l at hl
  have e1:l.take n0++(l.drop n0).take n1=l.take (n0+n1):=by rw [zaY]
  have e2:l.take (n0+n1)++(l.drop (n0+n1)).take n2=l.take (n0+n1+n2):=by rw [zaY (i:=n0+n1)]
  have e3:l.take (n0+n1+n2)++(l.drop (n0+n1+n2)).take n3=l.take (n0+n1+n2+n3):=by rw [zaY (i:=n0+n1+n2)]
  rw [e1,e2,e3,zaa oo]
end
end Auto
end
section
namespace Auto
open Go Go.RowKit
open Rely
theorem QdH {P : Program} {w:World}:∀ (laid:List (String×DataW Unit)) (ps:List MemPlace) (n:String) (d:DataW Unit),DataW.LaidVars P w laid ps→(n,d)∈laid →
    ∃ g t cs fuel p,P.globalNamed n=some g∧(P.globals[g]?).map (·.type)=some t∧w.var? P n=some cs∧DataW.trod (fun _=>()) P w 0 (fun _=>true) false fuel t cs.toList=some (d,p)∧∀ x∈MemPlace.row ⟨g,0,none⟩ cs.size,x∈ps
  | [],_,_,_,_,h=>by cases h
  | (n0,d0)::r,ps,n,d,⟨g,t,cs,fuel,p,q,h1,h2,h3,h4,h5,h6⟩,h=>by
    subst h6
    rcases zaL.1 h with h | h
    · cases h
      exact ⟨g,t,cs,fuel,p,h1,h2,h3,h4,fun x hx=>zaZ _ (zaZ _ hx)⟩
    · obtain ⟨g',t',cs',fuel',p',a,b,c,e,f⟩:=QdH r q n d h5 h
      exact ⟨g',t',cs',fuel',p',a,b,c,e,fun x hx=>List.mem_append_right _ (f x hx)⟩
theorem QeN {P : Program} {w:World} {laid:List (String×DataW Unit)} {n:String} {k:IntKind} {zs:List Int} {g:Nat} {t e:TypeId} {m:Nat} (h:laidMet P laid w) (hm:(n,Lib.tabData k zs)∈laid)
    (hg:P.globalNamed n=some g) (hty:(P.globals[g]?).map (·.type)=some t) (ht:P.underlying t=some (.array m e)) (he:P.underlying e=some (.int k)) (hce:P.cellsOf e=1) (hct:P.cellsOf t=m) (h0:0<zs.length) :
    ∃ t,w.heap[g]? = some (.cells (ints k zs) t):=by
  obtain ⟨ps,hL,-,hC⟩:=h
  obtain ⟨g',t',cs,fuel,p,hg',ht',hvar,hd,hin⟩:=QdH _ _ _ _ hL hm
  obtain rfl:=Option.some.inj (hg.symm.trans hg')
  obtain rfl:=Option.some.inj (hty.symm.trans ht')
  have hcs:=Lib.cells_of_tab ht he hce hct hd
  have hsz:0<cs.size:=by rw [←za2,hcs,za1]; exact h0
  obtain ⟨⟨c,t2,hc⟩,-⟩:=hC g 0 (hin _ (zaP.2 ⟨0,zaT.2 hsz,rfl⟩))
  unfold World.var? at hvar
  rw [hg] at hvar
  simp only [zba,hc,Option.some.injEq] at hvar
  subst hvar
  refine ⟨t2,hc.trans ?_⟩
  rw [show c=ints k zs from by rw [ints,←hcs]]
end Auto
end
section
namespace Auto
open Go Go.RowKit
open Rely
theorem chunks {α : Type} (m:Nat):∀ (n:Nat) (cs:List α),cs.length=n*m→((zaH n).map fun i=>(cs.drop (i*m)).take m).flatten=cs
  | 0,cs,h=>by
    have:cs=[]:=zaq.1 (by simpa using h)
    subst this; rfl
  | n+1,cs,h=>by
    have hm:(n+1)*m=n*m+m:=Nat.succ_mul n m
    rw [zaI,zaJ,List.flatten_append]
    have ih:=chunks m n (cs.take (n*m)) (by rw [zan]; omega)
    have e1:((zaH n).map fun i=>(cs.drop (i*m)).take m)=((zaH n).map fun i=>((cs.take (n*m)).drop (i*m)).take m):=by
      refine List.map_congr_left fun i hi=>?_
      rw [zaT] at hi
      have h1:(i+1)*m≤n*m:=Nat.mul_le_mul_right m hi
      rw [Nat.succ_mul] at h1
      rw [List.drop_take,zar,Nat.min_eq_left oo]
    rw [e1,ih]
    simp only [List.map_cons,List.map_nil,List.flatten_cons,List.flatten_nil,zae]
    have e2:(cs.drop (n*m)).take m=cs.drop (n*m):=zaa (by rw [za0]; omega)
    rw [e2,List.take_append_drop]
theorem Qgw {H : Type} {enc:TypeId×Value→H} {P:Program} {w:World} {base:Nat} {sp:Nat→Bool} {held:Bool} {fuel:Nat} {t e i:TypeId} {n m:Nat} {k:IntKind} {cs:List Value} {zss:List (List Int)} {p:List MemPlace}
    (ht:P.underlying t=some (.array n e)) (he:P.underlying e=some (.array m i)) (hi:P.underlying i=some (.int k)) (hci:P.cellsOf i=1) (hce:P.cellsOf e=m) (hct:P.cellsOf t=n*m)
    (h:DataW.trod enc P w base sp held fuel t cs=some (.agg (zss.map (Lib.tabData k)),p)):cs=zss.flatten.map fun z=>zam k z:=by
  cases fuel with
  | zero=>simp [DataW.trod] at h
  | succ fuel =>
    simp only [DataW.trod,ht,hce,hct] at h
    split at h
    · rename_i hl
      obtain ⟨xs,hm,hx⟩:=Option.map_eq_some_iff.1 h
      have hxs:xs.map (·.1)=zss.map fun z=>(Lib.tabData k z:DataW H):=by
        have:=congrArg Prod.fst hx
        simpa using this
      have hxl:xs.length=n:=by simpa using Lib.mapM_length hm
      have hzl:zss.length=n:=by
        have:=congrArg List.length hxs
        simp at this
        omega
      rw [←chunks m n cs (by simpa using hl),List.map_flatten]
      congr 1
      apply zau
      intro j
      by_cases hj:j<n
      · obtain ⟨b,hb,hf⟩:=Lib.mapM_at hm j j (by simp [hj])
        have h2:(xs.map (·.1))[j]? = some b.1:=by simp [hb]
        rw [hxs,zax,zay oo,zbb,Option.some.injEq] at h2
        have h3:=Lib.cells_of_tab he hi hci hce (zs:=zss[j]'oo) (p:=b.2) (by rw [h2]; exact hf)
        rw [zax,zax,List.getElem?_range hj,zay oo,zbb,zbb,h3]
      · rw [zaz (by simp; omega),zaz (by simp; omega)]
    · cases h
theorem Qko {P : Program} {w:World} {laid:List (String×DataW Unit)} {n:String} {k:IntKind} {zss:List (List Int)} {g:Nat} {t e i:TypeId} {m1 m:Nat} (h:laidMet P laid w) (hm:(n,DataW.agg (zss.map (Lib.tabData k)))∈laid)
    (hg:P.globalNamed n=some g) (hty:(P.globals[g]?).map (·.type)=some t) (ht:P.underlying t=some (.array m1 e)) (he:P.underlying e=some (.array m i)) (hi:P.underlying i=some (.int k)) (hci:P.cellsOf i=1) (hce:P.cellsOf e=m) (hct:P.cellsOf t=m1*m) (h0:0<zss.flatten.length) :
    ∃ t,w.heap[g]? = some (.cells (ints k zss.flatten) t):=by
  obtain ⟨ps,hL,-,hC⟩:=h
  obtain ⟨g',t',cs,fuel,p,hg',ht',hvar,hd,hin⟩:=QdH _ _ _ _ hL hm
  obtain rfl:=Option.some.inj (hg.symm.trans hg')
  obtain rfl:=Option.some.inj (hty.symm.trans ht')
  have hcs:=Qgw ht he hi hci hce hct hd
  have hsz:0<cs.size:=by rw [←za2,hcs,za1]; exact h0
  obtain ⟨⟨c,t2,hc⟩,-⟩:=hC g 0 (hin _ (zaP.2 ⟨0,zaT.2 hsz,rfl⟩))
  unfold World.var? at hvar
  rw [hg] at hvar
  simp only [zba,hc,Option.some.injEq] at hvar
  subst hvar
  refine ⟨t2,hc.trans ?_⟩
  rw [show c=ints k zss.flatten from by rw [ints,←hcs]]
end Auto
end
end Go.Proofs.YtbonglpnkoegoaaGreatDoor
