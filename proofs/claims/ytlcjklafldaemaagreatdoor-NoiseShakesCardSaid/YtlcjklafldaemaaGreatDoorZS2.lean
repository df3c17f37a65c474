/- Texts of this claim, joined (S2). -/
import Derived.Test.YtlcjklafldaemaaGreatDoorZS1
import Derived.Laws.Externs
import Derived.Shelf.Spec.BitsCarry
import Derived.Shelf.Bits.Mul64
import Derived.Laws.Bits64b
import Derived.Laws.BitsAll

set_option linter.unusedVariables false
set_option linter.unusedSimpArgs false
set_option maxHeartbeats 4000000
open Int renaming eq_ofNat_of_zero_le → zaa, natCast_mul → zae, natCast_add → zah, mul_nonneg → zai, mul_le_mul_of_nonneg_right → zaj, tdiv → zau, tmod → zaw, fdiv_eq_ediv_of_nonneg → za1, mul_le_mul_of_nonneg_left → za2, add_mul_ediv_left → zaL
open Nat renaming and_two_pow_sub_one_eq_mod → zab, shiftLeft_add_eq_or_of_lt → zaf, shiftLeft_eq → zag, zero_le → zap, min_eq_left → zar, lt_of_lt_of_eq → zas, sub_le → zaQ
open Go.IntKind renaming u64 → zac, wrap_u64 → zad, i64 → zat, u8 → zaM
open Go.Code renaming wp → zak, rounds → zal
open List renaming nil_append → zam, cons_append → zan, take_zero → zao, length_take → zaq, take_succ_cons → zax, drop_succ_cons → zay, drop_zero → zaz, take_length → za0, length_drop → za5, length_set → za6, take_of_length_le → zaB, take_append_of_le_length → zaC, length_map → zaD, drop_of_length_le → zaE, drop_append_of_le_length → zaF, append_assoc → zaG, length_append → zaH, append_nil → zaI, drop_drop → zaK, replicate → zaN, take_append_drop → zaR
open Go.Value renaming int → zav, bool → zaJ
open Array renaming setIfInBounds_append_right → za3, setIfInBounds_append_left → za4, ext' → zaA
open Go.Sem renaming run_bind → za7, run_pure → za8
open Go.Result renaming andThen_ok → za9
open BitVec renaming ofInt → zaO, toNat_ofInt → zaP
open Go.Region renaming ready → zaS
namespace Go.Proofs.YtlcjklafldaemaaGreatDoor
open Rely.Ext renaming refl → zaT, trans → zaU
open Auto.Puts renaming row → zaV, ext → zaW
open Auto.Ext renaming tr → zaX
open Own.ExtB renaming refl → zaY, ext → zaZ, puts → zba, row → zbb, up → zbc
open Auto.OwnN renaming stable → zbd, rd → zbf
open Auto.RdK renaming ext → zbe
open Auto.ExtB renaming putsN → zbg
open Auto.Qa0 renaming refl → zbh, row → zbi, puts → zbj
section
namespace Ae
open Go Go.RowKit
open Rely Auto Own Sha
set_option exponentiation.threshold 500
open Sha Cha
def isW (x : Int):Prop:=0≤x∧x<18446744073709551616
theorem add64 (x y c:Int) (hx:isW x) (hy:isW y) (hc:0≤c∧c≤1) :
    ∃ s d:Int,isW s∧(0≤d∧d≤1)∧s+18446744073709551616*d=x+y+c ∧
      ∀ W,(callFunc 111 #[.int .u64 x,.int .u64 y,.int .u64 c]).run Tryz.prog W=.ok (.value (.tuple #[.int .u64 s,.int .u64 d])) W:=by
  unfold isW at hx hy
  refine ⟨(x+y+c)%18446744073709551616,(x+y+c)/18446744073709551616,⟨by omega,by omega⟩,by omega,by omega,fun W=>?_⟩
  rw [run_callFunc_extern Tryz.func111 kj kj kj (e:=add64Entry) kj,run_add64 x y c hx.1 hy.1 hc.1 hc.2]
  rfl
theorem maskN (a : Int) (h:isW a):bits .and .u64 a 4294967295=a%4294967296:=by
  obtain ⟨A,rfl⟩:=zaa h.1
  have h:=bits_and_u64_nat A 4294967295 (by have:=h.2; omega) (by omega)
  have e:A&&&4294967295=A%4294967296:=zab A 32
  rw [e] at h
  exact h
theorem wrap64 (a : Int) (h:isW a):zac.wrap a=a:=by rw [zad]; have:=h.1; have:=h.2; omega
theorem mul64 (x y:Int) (hx:isW x) (hy:isW y) :
    ∃ hi lo:Int,isW hi∧isW lo∧lo+18446744073709551616*hi=x*y∧∀ w,Calls Tryz.prog 127 #[.int .u64 x,.int .u64 y] w (fun e w'=>e=.returned (.tuple #[.int .u64 hi,.int .u64 lo])∧w'=w):=by
  obtain ⟨X,rfl⟩:=zaa hx.1
  obtain ⟨Y,rfl⟩:=zaa hy.1
  have hX:X<18446744073709551616:=by have:=hx.2; omega
  have hY:Y<18446744073709551616:=by have:=hy.2; omega
  have hXY:X*Y<18446744073709551616*18446744073709551616:=Nat.mul_lt_mul'' hX hY
  refine ⟨((X*Y/18446744073709551616:Nat):Int),((X*Y%18446744073709551616:Nat):Int),⟨by omega,by omega⟩,⟨by omega,by omega⟩,?_,fun w=>?_⟩
  · rw [←zae]; omega
  obtain ⟨bd,bt,bw,hhi⟩:=Lib.mul64_hi X Y hX hY
  have ba:=Lib.half_mul_le (a:=X/4294967296) (b:=Y/4294967296) (by omega) (by omega)
  have bb:=Lib.half_mul_le (a:=X/4294967296) (b:=Y%4294967296) (by omega) (by omega)
  have bc:=Lib.half_mul_le (a:=X%4294967296) (b:=Y/4294967296) (by omega) (by omega)
  have ba':X/4294967296*(Y/4294967296)<18446744073709551616:=by omega
  have bb':X/4294967296*(Y%4294967296)<18446744073709551616:=by omega
  have bc':X%4294967296*(Y/4294967296)<18446744073709551616:=by omega
  have bh1:X/4294967296*(Y/4294967296)+(X/4294967296*(Y%4294967296)+X%4294967296*(Y%4294967296)/4294967296)/4294967296<18446744073709551616:=by omega
  have bh:X/4294967296*(Y/4294967296)+(X/4294967296*(Y%4294967296)+X%4294967296*(Y%4294967296)/4294967296)/4294967296+((X/4294967296*(Y%4294967296)+X%4294967296*(Y%4294967296)/4294967296)%4294967296+X%4294967296*(Y/4294967296))/4294967296<18446744073709551616:=by omega
  go_enter Tryz.func127,Tryz.ntmps127
  go_wp2
  simp only [Mul64.maskN X hX,Mul64.maskN Y hY,Mul64.divN,Mul64.mulN,Mul64.addN,Mul64.wrapN _ bd,Mul64.wrapN _ bb',Mul64.wrapN _ bt,Mul64.maskN _ bt,Mul64.wrapN _ bc',Mul64.wrapN _ bw,Mul64.wrapN _ ba',Mul64.wrapN _ bh1,Mul64.wrapN _ bh,Mul64.wrapM (X*Y)]
  rw [hhi]
  go_ret2
  exact ⟨rfl,rfl⟩
theorem zero_isW : isW 0:=⟨by decide,by decide⟩
def nw3 (v : Int):List Int:=[v%18446744073709551616,v/18446744073709551616%18446744073709551616,v/340282366920938463463374607431768211456%18446744073709551616]
theorem Qor {a b c v:Int} (ha:isW a) (hb:isW b) (hc:isW c) (h:a+18446744073709551616*b+340282366920938463463374607431768211456*c=v):[a,b,c]=nw3 v:=by
  obtain ⟨a0,a1⟩:=ha
  obtain ⟨b0,b1⟩:=hb
  obtain ⟨c0,c1⟩:=hc
  subst h
  unfold nw3
  have e1:(a+18446744073709551616*b+340282366920938463463374607431768211456*c)%18446744073709551616=a:=by omega
  have e2:(a+18446744073709551616*b+340282366920938463463374607431768211456*c)/18446744073709551616%18446744073709551616=b:=by omega
  have e3:(a+18446744073709551616*b+340282366920938463463374607431768211456*c)/340282366920938463463374607431768211456%18446744073709551616=c:=by omega
  rw [e1,e2,e3]
theorem Qdg (v : Int):isW (v%18446744073709551616):=⟨by omega,by omega⟩
theorem Qh1 (v : Int) (h0:0≤v) (h:v<2^192):v%18446744073709551616+18446744073709551616*(v/18446744073709551616%18446744073709551616)+340282366920938463463374607431768211456*(v/340282366920938463463374607431768211456%18446744073709551616)=v:=by omega
theorem QoZ (t : Nat) (ht:t<8):0<p256 t∧256*p256 t≤18446744073709551616:=by
  have:∀ t:Fin 8,0<p256 t.1∧256*p256 t.1≤18446744073709551616:=by decide +kernel
  exact this ⟨t,ht⟩
theorem QlN (u x:Int) (t:Nat) (h0:0≤u) (h1:u<p256 t) (hx:0≤x∧x<256) (ht:t<8):bits .or .u64 u (x*p256 t)=u+x*p256 t:=by
  obtain ⟨U,rfl⟩:=zaa h0
  obtain ⟨X,rfl⟩:=zaa hx.1
  obtain ⟨q0,q1⟩:=QoZ t ht
  have e:p256 t=((2^(8*t):Nat):Int):=by unfold p256; rw [Nat.pow_mul]; simp
  have hX:X<256:=by omega
  rw [e] at h1 q0 q1 ⊢
  have hU:U<2^(8*t):=by omega
  have q2:256*2^(8*t)≤18446744073709551616:=by omega
  have hm:X*2^(8*t)+2^(8*t)≤18446744073709551616:=by
    have:(X+1)*2^(8*t)≤256*2^(8*t):=Nat.mul_le_mul_right _ hX
    rw [Nat.succ_mul] at this; omega
  rw [←zae,bits_or_u64_nat U (X*2^(8*t)) (by omega) (by omega)]
  have h:=zaf hU X
  rw [zag] at h
  rw [Nat.or_comm,←h]
  rw [zah]; omega
theorem QqY (x : Int) (t:Nat) (c:Int) (hc:c=((8*t:Nat):Int)) (hx:0≤x∧x<256) (ht:t<8):zac.wrap (x*2^min c.toNat zac.bits)=x*p256 t:=by
  subst hc
  have hm:min (((8*t:Nat):Int)).toNat zac.bits=8*t:=by show min (((8*t:Nat):Int)).toNat 64=8*t; omega
  have e:(2:Int)^(8*t)=p256 t:=by unfold p256; rw [Int.pow_mul]; rfl
  obtain ⟨q0,q1⟩:=QoZ t ht
  rw [hm,e]
  have h1:0≤x*p256 t:=zai hx.1 (by omega)
  have h2:x*p256 t≤255*p256 t:=zaj (by omega) (by omega)
  exact wrap64 _ ⟨h1,by omega⟩
theorem Qk2 (v x:Int) (i:Nat) (hi:i<24) (h0:0≤v) (h1:v<p256 i) (hx:0≤x∧x<256) :
    bits .or .u64 (nth (nw3 v) (i/8)) (x*p256 (i%8))=nth (nw3 (v+x*p256 i)) (i/8)∧(nw3 v).set (i/8) (nth (nw3 (v+x*p256 i)) (i/8))=nw3 (v+x*p256 i):=by
  obtain ⟨t,et⟩:∃ t,t=i%8:=⟨_,rfl⟩
  have ht:t<8:=by omega
  obtain ⟨q0,q1⟩:=QoZ t ht
  obtain ⟨z,ez⟩:∃ z,z=x*p256 t:=⟨_,rfl⟩
  have hz0:0≤z:=by rw [ez]; exact zai hx.1 (by omega)
  have hz1:z≤255*p256 t:=by rw [ez]; exact zaj (by omega) (by omega)
  rw [←et]
  have hp8:p256 8=18446744073709551616:=by decide +kernel
  have hp16:p256 16=340282366920938463463374607431768211456:=p16
  rcases (show i=t∨i=8+t∨i=16+t by omega) with e | e | e
  · have hd:i/8=0:=by omega
    have hv:v<p256 t:=by rw [e] at h1; exact h1
    have hxp:x*p256 i=z:=by rw [e,ez]
    rw [hd,hxp]
    have e1:nth (nw3 v) 0=v:=by show v%_=v; omega
    have e2:nth (nw3 (v+z)) 0=v+z:=by show (v+z)%_=v+z; omega
    rw [e1,e2]
    refine ⟨by rw [QlN v x t h0 hv hx ht,ez],?_⟩
    show [v+z,v/18446744073709551616%18446744073709551616,v/340282366920938463463374607431768211456%18446744073709551616]=[(v+z)%18446744073709551616,(v+z)/18446744073709551616%18446744073709551616,(v+z)/340282366920938463463374607431768211456%18446744073709551616]
    congr 1
    · omega
    · congr 1
      · omega
      · congr 1; omega
  · have hd:i/8=1:=by omega
    have hpi:p256 i=18446744073709551616*p256 t:=by rw [e,Qe8,hp8]
    have hv:v<18446744073709551616*p256 t:=by rw [hpi] at h1; exact h1
    have hxp:x*p256 i=18446744073709551616*z:=by rw [hpi,ez]; grind
    rw [hd,hxp]
    have e1:nth (nw3 v) 1=v/18446744073709551616:=by show v/_%_=v/_; omega
    have e2:nth (nw3 (v+18446744073709551616*z)) 1=v/18446744073709551616+z:=by show (v+_*z)/_%_=_; omega
    rw [e1,e2]
    refine ⟨by rw [QlN (v/18446744073709551616) x t (by omega) (by omega) hx ht,ez],?_⟩
    show [v%18446744073709551616,v/18446744073709551616+z,v/340282366920938463463374607431768211456%18446744073709551616]=[(v+18446744073709551616*z)%18446744073709551616,(v+18446744073709551616*z)/18446744073709551616%18446744073709551616,(v+18446744073709551616*z)/340282366920938463463374607431768211456%18446744073709551616]
    congr 1
    · omega
    · congr 1
      · omega
      · congr 1; omega
  · have hd:i/8=2:=by omega
    have hpi:p256 i=340282366920938463463374607431768211456*p256 t:=by rw [e,Qe8,hp16]
    have hv:v<340282366920938463463374607431768211456*p256 t:=by rw [hpi] at h1; exact h1
    have hxp:x*p256 i=340282366920938463463374607431768211456*z:=by rw [hpi,ez]; grind
    rw [hd,hxp]
    have e1:nth (nw3 v) 2=v/340282366920938463463374607431768211456:=by show v/_%_=v/_; omega
    have e2:nth (nw3 (v+340282366920938463463374607431768211456*z)) 2=v/340282366920938463463374607431768211456+z:=by show (v+_*z)/_%_=_; omega
    rw [e1,e2]
    refine ⟨by rw [QlN (v/340282366920938463463374607431768211456) x t (by omega) (by omega) hx ht,ez],?_⟩
    show [v%18446744073709551616,v/18446744073709551616%18446744073709551616,v/340282366920938463463374607431768211456+z]=[(v+340282366920938463463374607431768211456*z)%18446744073709551616,(v+340282366920938463463374607431768211456*z)/18446744073709551616%18446744073709551616,(v+340282366920938463463374607431768211456*z)/340282366920938463463374607431768211456%18446744073709551616]
    congr 1
    · omega
    · congr 1
      · omega
      · congr 1; omega
theorem Qa3 (v : Int):(nw3 v).length=3:=rfl
theorem Qrf (m0_ m1_ m2_ n0_ n1_ n2_ v:Int) (hm0_:isW m0_) (hm1_:isW m1_) (hm2_:isW m2_) (hn0_:isW n0_) (hn1_:isW n1_) (hn2_:isW n2_) (hv:(m0_+18446744073709551616*m1_+340282366920938463463374607431768211456*m2_)+(n0_+18446744073709551616*n1_+340282366920938463463374607431768211456*n2_)=v) (hlt:v<2^192) (w:World) :
    Calls Tryz.prog 147 #[.agg (ints .u64 [m0_,m1_,m2_]),.agg (ints .u64 [n0_,n1_,n2_])] w (Ret w (.agg (ints .u64 (nw3 v)))):=by
  refine enter 25 [(0,.agg (ints .u64 ([m0_,m1_,m2_]))),(1,.agg (ints .u64 ([n0_,n1_,n2_])))] Tryz.func147 rfl rfl kj rfl <| sgC fun K1 hK1=>Qak (ints .u64 ([m0_,m1_,m2_])) 212 2 rfl kj kj fun g2 W1 l2 e1 r2_1=>?_
  have x1:=zaX (zaT w) e1
  have b2:=qT (zaT w).size l2
  refine Qak (ints .u64 ([n0_,n1_,n2_])) 212 3 rfl kj kj fun g3 W2 l3 e2 r3_2=>?_
  have x2:=zaX x1 e2
  have b3:=qT x1.size l3
  refine Qak (ints .u64 ([0,0,0])) 212 4 rfl kj kj fun g4 W3 l4 e3 r4_3=>sgN hK1 <| sgB kj <| wp_seq_k fun K6 hK6=>sgB kj <| wp_block <| wp_loop_rounds 4 ?_
  show zak _ _ (Exit.then (zal _ _ _ 3) _) _ _
  refine sgB kj <| sgT kj <| wp_seq_k fun K10 hK10=>wp_block <| sgB kj <| QbB (fun W=>True) [⟨none,[(6,none)]⟩,⟨none,[(6,none)]⟩,⟨none,[(2,none),(12,some 1)]⟩,⟨none,[(13,some 2)]⟩,⟨none,[(6,none)]⟩,⟨none,[(3,none),(15,some 4)]⟩,⟨none,[(16,some 5)]⟩,⟨none,[(5,none)]⟩,⟨none,[(14,some 3),(17,some 6),(18,some 7)]⟩,⟨none,[(19,some 8)]⟩,⟨none,[(10,some 9)]⟩,⟨none,[(10,some 9)]⟩,⟨none,[(2,none),(11,some 0)]⟩,⟨none,[(22,some 12),(20,some 10)]⟩,⟨none,[(21,some 11)]⟩] [] [11,14] kj kj kj (fun W hR=>trivial) fun F hF=>QaY (.int .i64 0) kj kj rfl (fun _=>kj) <| QaY (.int .i64 0) kj kj rfl (fun _=>kj) <| QaY (.pointer (some ⟨g2,0,none⟩)) kj kj rfl (fun _=>kj) ?_
  have r2_2:=(Qaa r2_1 e2)
  have r2_3:=(Qaa r2_2 e3)
  refine Qbz (.int .u64 m0_) kj kj kj rfl (fun W hR=>(Qaj 115 _ g2 0 212 _ (.int .u64 m0_) _ (Qaa (Qaa r2_3 (Qah _)) hR) rfl kj kj kj)) <| QaY (.int .i64 0) kj kj rfl (fun _=>kj) <| QaY (.pointer (some ⟨g3,0,none⟩)) kj kj rfl (fun _=>kj) ?_
  have r3_3:=(Qaa r3_2 e3)
  refine Qbz (.int .u64 n0_) kj kj kj rfl (fun W hR=>(Qaj 115 _ g3 0 212 _ (.int .u64 n0_) _ (Qaa (Qaa r3_3 (Qah _)) hR) rfl kj kj kj)) <| QaY (.int .u64 0) kj kj rfl (fun _=>kj) ?_
  obtain ⟨s1,d1,hs1,hd1,he1,ra1⟩:=add64 (m0_) (n0_) (0) hm0_ hn0_ ⟨by decide,by decide⟩
  refine QaY (.tuple #[.int .u64 (s1),.int .u64 (d1)]) kj kj rfl (fun W=>(Qbw (f:=111) (args:=#[.int .u64 m0_,.int .u64 n0_,.int .u64 0]) _ _ _ rfl kj kj (ra1 _))) <| QaY (.tuple #[.int .u64 (s1),.int .u64 (d1)]) kj kj rfl (fun _=>kj) <| QaY (.int .u64 (s1)) kj kj rfl (fun _=>kj) <| QaY (.int .u64 (d1)) kj kj rfl (fun _=>kj) <| QaY (.pointer (some ⟨g2,0,none⟩)) kj kj rfl (fun _=>kj) <| Qb0 rfl <| QaY (.int .u64 (d1)) kj kj rfl (fun _=>kj) <| QeY (hF _ kj fun W4 e4=>?_)
  simp only [zam,zan,fins,up]
  clear hF
  have r2_4:=(Qaa r2_3 e4)
  refine Qbv _ g2 _ (ints .u64 ([(s1),m1_,m2_])) 212 r2_4 rfl (Qa1 115 _ _ g2 0 212 _ _ r2_4 rfl kj kj kj (show 0<3 by decide)) (fun W hp=>trivial) fun W5 p5 r2_5=>Qd8 <| hK10 _ _ <| sgA kj ?_
  show zal _ _ _ 3 _ _
  show zak _ _ (Exit.then (zal _ _ _ 2) _) _ _
  refine sgB kj <| sgT kj <| wp_seq_k fun K14 hK14=>wp_block <| sgB kj <| QbB (fun W=>True) [⟨none,[(6,none)]⟩,⟨none,[(6,none)]⟩,⟨none,[(2,none),(12,some 1)]⟩,⟨none,[(13,some 2)]⟩,⟨none,[(6,none)]⟩,⟨none,[(3,none),(15,some 4)]⟩,⟨none,[(16,some 5)]⟩,⟨none,[(5,none)]⟩,⟨none,[(14,some 3),(17,some 6),(18,some 7)]⟩,⟨none,[(19,some 8)]⟩,⟨none,[(10,some 9)]⟩,⟨none,[(10,some 9)]⟩,⟨none,[(2,none),(11,some 0)]⟩,⟨none,[(22,some 12),(20,some 10)]⟩,⟨none,[(21,some 11)]⟩] [] [11,14] kj kj kj (fun W hR=>trivial) fun F hF=>QaY (.int .i64 1) kj kj rfl (fun _=>kj) <| QaY (.int .i64 1) kj kj rfl (fun _=>kj) <| QaY (.pointer (some ⟨g2,1,none⟩)) kj kj rfl (fun _=>kj) <| Qbz (.int .u64 m1_) kj kj kj rfl (fun W hR=>(Qaj 115 _ g2 1 212 _ (.int .u64 m1_) _ (Qaa (Qaa r2_5 (Qah _)) hR) rfl kj kj kj)) ?_
  refine QaY (.int .i64 1) kj kj rfl (fun _=>kj) <| QaY (.pointer (some ⟨g3,1,none⟩)) kj kj rfl (fun _=>kj) ?_
  have r3_5:=(zaV p5 (Qaa r3_3 e4) (Qap r2_1 l3))
  refine Qbz (.int .u64 n1_) kj kj kj rfl (fun W hR=>(Qaj 115 _ g3 1 212 _ (.int .u64 n1_) _ (Qaa (Qaa r3_5 (Qah _)) hR) rfl kj kj kj)) <| QaY (.int .u64 (d1)) kj kj rfl (fun _=>kj) ?_
  obtain ⟨s2,d2,hs2,hd2,he2,ra2⟩:=add64 (m1_) (n1_) (d1) hm1_ hn1_ hd1
  refine QaY (.tuple #[.int .u64 (s2),.int .u64 (d2)]) kj kj rfl (fun W=>(Qbw (f:=111) (args:=#[.int .u64 m1_,.int .u64 n1_,.int .u64 (d1)]) _ _ _ rfl kj kj (ra2 _))) <| QaY (.tuple #[.int .u64 (s2),.int .u64 (d2)]) kj kj rfl (fun _=>kj) <| QaY (.int .u64 (s2)) kj kj rfl (fun _=>kj) <| QaY (.int .u64 (d2)) kj kj rfl (fun _=>kj) <| QaY (.pointer (some ⟨g2,1,none⟩)) kj kj rfl (fun _=>kj) <| Qb0 rfl <| QaY (.int .u64 (d2)) kj kj rfl (fun _=>kj) <| QeY (hF _ kj fun W6 e6=>?_)
  simp only [zam,zan,fins,up]
  clear hF
  have r2_6:=(Qaa r2_5 e6)
  refine Qbv _ g2 _ (ints .u64 ([(s1),(s2),m2_])) 212 r2_6 rfl (Qa1 115 _ _ g2 1 212 _ _ r2_6 rfl kj kj kj (show 1<3 by decide)) (fun W hp=>trivial) fun W7 p7 r2_7=>Qd8 <| hK14 _ _ <| sgA kj ?_
  show zal _ _ _ 2 _ _
  show zak _ _ (Exit.then (zal _ _ _ 1) _) _ _
  refine sgB kj <| sgT kj <| wp_seq_k fun K18 hK18=>wp_block <| sgB kj <| QbB (fun W=>True) [⟨none,[(6,none)]⟩,⟨none,[(6,none)]⟩,⟨none,[(2,none),(12,some 1)]⟩,⟨none,[(13,some 2)]⟩,⟨none,[(6,none)]⟩,⟨none,[(3,none),(15,some 4)]⟩,⟨none,[(16,some 5)]⟩,⟨none,[(5,none)]⟩,⟨none,[(14,some 3),(17,some 6),(18,some 7)]⟩,⟨none,[(19,some 8)]⟩,⟨none,[(10,some 9)]⟩,⟨none,[(10,some 9)]⟩,⟨none,[(2,none),(11,some 0)]⟩,⟨none,[(22,some 12),(20,some 10)]⟩,⟨none,[(21,some 11)]⟩] [] [11,14] kj kj kj (fun W hR=>trivial) fun F hF=>QaY (.int .i64 2) kj kj rfl (fun _=>kj) <| QaY (.int .i64 2) kj kj rfl (fun _=>kj) <| QaY (.pointer (some ⟨g2,2,none⟩)) kj kj rfl (fun _=>kj) <| Qbz (.int .u64 m2_) kj kj kj rfl (fun W hR=>(Qaj 115 _ g2 2 212 _ (.int .u64 m2_) _ (Qaa (Qaa r2_7 (Qah _)) hR) rfl kj kj kj)) ?_
  refine QaY (.int .i64 2) kj kj rfl (fun _=>kj) <| QaY (.pointer (some ⟨g3,2,none⟩)) kj kj rfl (fun _=>kj) <| Qbz (.int .u64 n2_) kj kj kj rfl (fun W hR=>(Qaj 115 _ g3 2 212 _ (.int .u64 n2_) _ (Qaa (Qaa (zaV p7 (Qaa r3_5 e6) (Qap r2_1 l3)) (Qah _)) hR) rfl kj kj kj)) <| QaY (.int .u64 (d2)) kj kj rfl (fun _=>kj) ?_
  obtain ⟨s3,d3,hs3,hd3,he3,ra3⟩:=add64 (m2_) (n2_) (d2) hm2_ hn2_ hd2
  refine QaY (.tuple #[.int .u64 (s3),.int .u64 (d3)]) kj kj rfl (fun W=>(Qbw (f:=111) (args:=#[.int .u64 m2_,.int .u64 n2_,.int .u64 (d2)]) _ _ _ rfl kj kj (ra3 _))) <| QaY (.tuple #[.int .u64 (s3),.int .u64 (d3)]) kj kj rfl (fun _=>kj) <| QaY (.int .u64 (s3)) kj kj rfl (fun _=>kj) <| QaY (.int .u64 (d3)) kj kj rfl (fun _=>kj) <| QaY (.pointer (some ⟨g2,2,none⟩)) kj kj rfl (fun _=>kj) <| Qb0 rfl <| QaY (.int .u64 (d3)) kj kj rfl (fun _=>kj) <| QeY (hF _ kj fun W8 e8=>?_)
  simp only [zam,zan,fins,up]
  clear hF
  have r2_8:=(Qaa r2_7 e8)
  refine Qbv _ g2 _ (ints .u64 ([(s1),(s2),(s3)])) 212 r2_8 rfl (Qa1 115 _ _ g2 2 212 _ _ r2_8 rfl kj kj kj (show 2<3 by decide)) (fun W hp=>trivial) fun W9 p9 r2_9=>Qd8 <| hK18 _ _ <| sgA kj ?_
  show zal _ _ _ 1 _ _
  show zak _ _ (Exit.then (zal _ _ _ 0) _) _ _
  refine sgB kj <| wp_seq_k fun K21 hK21=>cond_false kj <| wp_exit <| hK6 _ _ <| sgC fun K22 hK22=>Qac (.agg (ints .u64 ([(s1),(s2),(s3)]))) 24 rfl kj (Qae 212 _ g2 212 _ _ r2_9 rfl kj kj (isz (n:=3) kj kj)) ?_
  have r4_9:=(zaV p9 (Qaa (zaV p7 (Qaa (zaV p5 (Qaa r4_3 e4) (Qap r2_2 l4)) e6) (Qap r2_2 l4)) e8) (Qap r2_2 l4))
  refine Qai g4 _ (ints .u64 ([(s1),(s2),(s3)])) 212 r4_9 rfl kj (Qag 212 _ _ g4 212 _ _ r4_9 rfl kj kj (isz (n:=3) kj kj) (eqsz (n:=3) kj kj) (ints_one _ _)) fun W10 p10 r4_10=>sgN hK22 <| wp_ret ?_
  repeat (first | with_reducible refine goR1 ?_ | with_reducible refine goR2 ?_)
  exact (show bodyPost _ _ _ .ret _ _ from ret1 (.agg (ints .u64 ([(s1),(s2),(s3)]))) rfl (QaU g4 212 _ r4_10 kj kj (isz (n:=3) kj kj)) ⟨by rw [Qor (v:=v) hs1 hs2 hs3 (by obtain ⟨hs10,hs11⟩:=hs1; obtain ⟨hs20,hs21⟩:=hs2; obtain ⟨hs30,hs31⟩:=hs3; omega)],(zaW p10 (zaW p9 (zaX (zaW p7 (zaX (zaW p5 (zaX (zaX x2 e3) e4) b2) e6) b2) e8) b2) (qT x2.size l4))⟩)
theorem Qje (a b:Int) (ha:0≤a) (hb:0≤b) (ha2:a<2^192) (hb2:b<2^192) (hlt:a+b<2^192) (w:World) :
    Calls Tryz.prog 147 #[.agg (ints .u64 (nw3 a)),.agg (ints .u64 (nw3 b))] w (Ret w (.agg (ints .u64 (nw3 (a+b))))) :=
  Qrf _ _ _ _ _ _ (a+b) (Qdg _) (Qdg _) (Qdg _) (Qdg _) (Qdg _) (Qdg _) (by rw [Qh1 a ha ha2,Qh1 b hb hb2]) hlt w
theorem Qln (b : List Int) (v:Value) (B:Nat) (w:World) (hb:RdK .u8 B b v w) (hl:b.length≤24) (hbb:Qaf b):Calls Tryz.prog 145 #[v] w (Ret w (.agg (ints .u64 (nw3 (lev b))))):=by
 obtain ⟨a_b,c_b,rfl,-⟩:=id hb
 refine enter 27 [(0,.slice a_b b.length c_b)] Tryz.func145 rfl rfl kj rfl <| sgC fun K1 hK1=>Qak (ints .u64 ([0,0,0])) 212 2 rfl kj kj fun g2 W1 l2 e1 r2_1=>?_
 have x1:=zaX (zaT w) e1
 refine sgN hK1 <| sgC fun K3 hK3=>Qak (ints .u64 ([0,0,0])) 212 3 rfl kj kj fun g4 W2 l4 e2 r4_2=>sgN hK3 <| wp_seq_k fun K5 hK5=>sgB kj <| wp_block ?_
 have r4_2_7:W2.heap[g4]? = some (.cells (ints .u64 (nw3 (lev (b.take 0)))) 212):=QaG r4_2 (by rw [zao]; rfl)
 refine QaT (fun (s1:Nat)=>[(2,.pointer (some ⟨g2,0,none⟩)),(3,.pointer (some ⟨g4,0,none⟩)),(6,.slice a_b b.length c_b),(7,.int .i64 ((b.length:Nat):Int)),(8,.int .i64 ((s1:Nat):Int))]) (fun (s1:Nat) W=>(s1≤b.length)∧(W.heap[g4]? = some (.cells (ints .u64 (nw3 (lev (b.take s1)))) 212))∧(Qa0 [g4] W2 W)∧(Ext w W)) (fun (s1:Nat)=>b.length-s1) 0 ⟨kj,kj,kj,kj,kj,trivial⟩ ⟨(zap _),r4_2_7,(zbh [g4] W2),(zaX x1 e2)⟩ fun s1 X1 V1 hI1=>?_
 obtain ⟨i,hs1⟩:∃ z,z=s1:=⟨_,rfl⟩
 subst hs1
 obtain ⟨hi,q4_1,kk1,xx1⟩:=hI1
 replace hi:i≤b.length:=hi
 replace q4_1:V1.heap[g4]? = some (.cells (ints .u64 (nw3 (lev (b.take i)))) 212):=q4_1
 replace kk1:Qa0 [g4] W2 V1:=kk1
 replace xx1:Ext w V1:=xx1
 have q3:=kk1
 refine sgB kj <| wp_seq_k fun K9 hK9=>QaC (t:=decide (((i:Nat):Int)<((b.length:Nat):Int))) kj (fun c10=>?_) (fun c10=>?_)
 ·skip
  have hlt9:i<b.length:=by have:=of_decide_eq_true c10; omega
  obtain ⟨grb11,orb11,harb11,-,hlrb11,hcrb11⟩:=QfD (zbe hb xx1) (by omega)
  have hbi:=Qbt hbb i
  have hn0:=QdO (Qbq hbb i)
  have hn1:=Qi2 (Qbq hbb i)
  rw [zaq,zar (by omega)] at hn1
  obtain ⟨hst1,hst2⟩:=Qk2 (lev (b.take i)) (nth b i) i (by omega) hn0 hn1 hbi
  rw [←Qff b i hlt9] at hst1 hst2
  refine wp_skip <| hK9 _ _ <| wp_seq_k fun K12 hK12=>wp_block <| sgC fun K13 hK13=>sg 1 kj <| Qac (.pointer (some ⟨grb11,orb11+i,none⟩)) 11 rfl kj (Qe6 24 _ _ .i64 i grb11 orb11 b.length c_b 5 a_b _ harb11 rfl rfl kj kj kj kj (zas (show i<(b).length by omega) (rfl:(b).length=(b).length).symm)) <| Qac (.int .u8 (nth (b) (i))) 12 rfl kj (Qb5 5 _ _ (.int .u8 (nth (b) (i))) (hcrb11 i (zas (show i<(b).length by omega) (rfl:(b).length=(b).length).symm)) rfl kj kj) <| sg 2 kj <| sgN hK13 ?_
  refine Qba 10 [⟨none,[(4,none)]⟩,⟨none,[(13,some 0)]⟩,⟨none,[(3,none),(14,some 1)]⟩,⟨none,[(15,some 2)]⟩,⟨none,[(5,none)]⟩,⟨none,[(17,some 4)]⟩,⟨none,[(4,none)]⟩,⟨none,[(19,some 6)]⟩,⟨none,[(20,some 7)]⟩,⟨none,[(18,some 5),(21,some 8)]⟩] kj kj fun F hF=>Qa6 (Qar _) (.int .i64 ((i:Nat):Int)) kj kj (fun _=>kj) <| Qa6 (Qar _) (.int .i64 ((i/8:Nat):Int)) kj kj (fun W=>(Qam (u:=.int .i64 (zat.wrap (zau (((i:Nat):Int)) (8)))) kj (congrArg (zav .i64) (Qes _ 8 (by omega))))) <| Qa6 (Qar _) (.pointer (some ⟨g4,i/8,none⟩)) kj kj (fun W=>(Qa8 _ _ _ .i64 (i/8) _ 3 115 rfl kj kj kj kj (by omega))) <| QcF (Qar _) (.int .u64 (nth (nw3 (lev (b.take i))) (i/8))) kj kj (fun W hR=>(Qaj 115 _ g4 (i/8) 212 _ (.int .u64 (nth (nw3 (lev (b.take i))) (i/8))) _ (Qaa (Qaa q4_1 (Qah _)) hR) rfl kj (Qay _ _ _ (zas (by omega) (Qa3 _).symm)) kj)) <| Qa6 (Qar _) (.int .u8 (nth (b) (i))) kj kj (fun _=>kj) <| Qa6 (Qar _) (.int .u64 (nth b i)) kj kj (fun W=>(Qam (u:=.int .u64 (zac.wrap (nth (b) (i)))) kj (congrArg (zav .u64) (wrap64 _ ⟨hbi.1,by omega⟩)))) <| Qa6 (Qar _) (.int .i64 ((i:Nat):Int)) kj kj (fun _=>kj) <| Qa6 (Qar _) (.int .i64 ((i%8:Nat):Int)) kj kj (fun W=>(Qam (u:=.int .i64 (zaw (((i:Nat):Int)) (8))) kj (congrArg (zav .i64) (QcR _ 8)))) <| Qa6 (Qar _) (.int .i64 ((8*(i%8):Nat):Int)) kj kj (fun W=>(Qam (u:=.int .i64 (zat.wrap (8*((i%8:Nat):Int)))) kj (congrArg (zav .i64) (i64n _ _ (by omega) (by omega))))) ?_
  refine Qa6 (Qar _) (.int .u64 (nth b i*p256 (i%8))) kj kj (fun W=>(Qbu .shl _ _ _ _ .u64 .i64 _ _ _ rfl kj kj (QgC _ _ _ _ _ _ (by omega) (QqY _ (i%8) _ rfl hbi (by omega))))) <| Qdr (hF _ fun W4 e4=>?_)
  simp only [zam,zan,zax,zao,zay,zaz,finE,up]
  clear hF
  have x4:=zaX xx1 e4
  refine Qac (.int .u64 (nth (nw3 (lev (b.take (i+1)))) (i/8))) 23 rfl kj (Qam (u:=.int .u64 (bits .or .u64 ((nth (nw3 (lev (b.take i))) (i/8))) ((nth b i*p256 (i%8))))) kj (congrArg (zav .u64) hst1)) <| Qac (.pointer (some ⟨g4,i/8,none⟩)) 24 rfl kj (Qa8 _ _ _ .i64 (i/8) _ 3 115 rfl kj kj kj kj (by omega)) ?_
  have r4_4:=(Qaa q4_1 e4)
  refine Qai g4 _ (ints .u64 ((nw3 (lev (b.take i))).set (i/8) (nth (nw3 (lev (b.take (i+1)))) (i/8)))) 212 r4_4 rfl kj (Qa1 115 _ _ g4 (i/8) 212 _ _ r4_4 rfl kj kj kj (zas (by omega) (Qa3 _).symm)) fun W5 p5 r4_5=>Qaz <| hK12 _ _ <| Qao <| Qac (.int .i64 ((i+1:Nat):Int)) 25 rfl kj (Qam (u:=.int .i64 (zat.wrap (((i:Nat):Int)+1))) kj (congrArg (zav .i64) (i64n _ _ (by omega) (by omega)))) <| sg 1 kj <| Qaz ?_
  repeat (first | with_reducible refine goX1 ?_ | with_reducible refine goX2 ?_ | with_reducible refine goX3 ?_)
  exact QaL (i+1) ⟨kj,kj,kj,kj,kj,trivial⟩ ⟨(show i+1≤b.length by omega),(QaG r4_5 hst2),(zbj (Qa0.step q3 e4) p5 (.inl (by simp))),(zaW p5 x4 (qT x1.size l4))⟩ (by show b.length-(i+1)<b.length-i; omega)
 ·skip
  have heq9:i=b.length:=by have:=of_decide_eq_false c10; omega
  subst heq9
  have r4_3_14:V1.heap[g4]? = some (.cells (ints .u64 (nw3 (lev b))) 212):=QaG q4_1 (by rw [za0])
  refine wp_exit <| hK5 _ _ <| sgC fun K15 hK15=>Qac (.agg (ints .u64 (nw3 (lev b)))) 26 rfl kj (Qae 212 _ g4 212 _ _ r4_3_14 rfl kj kj (isz (n:=3) kj (izT (Qa3 _)))) ?_
  have r2_3:=(zbi q3 (Qaa r2_1 e2) (Qbd (Qad r2_1 l4) Qbr))
  refine Qai g2 _ (ints .u64 (nw3 (lev b))) 212 r2_3 rfl kj (Qag 212 _ _ g2 212 _ _ r2_3 rfl kj kj (isz (n:=3) kj (izT (Qa3 _))) (eqsz (n:=3) kj (izT (Qa3 _))) (ints_one _ _)) fun W4 p4 r2_4=>?_
  have x4:=zaW p4 xx1 (qT (zaT w).size l2)
  refine sgN hK15 <| wp_ret ?_
  repeat (first | with_reducible refine goR1 ?_ | with_reducible refine goR2 ?_)
  exact (show bodyPost _ _ _ .ret _ _ from ret1 (.agg (ints .u64 (nw3 (lev b)))) rfl (QaU g2 212 _ r2_4 kj kj (isz (n:=3) kj (izT (Qa3 _)))) ⟨rfl,x4⟩)
end Ae
end
section
namespace Ae
open Go Go.RowKit
open Rely Auto Own Sha
set_option exponentiation.threshold 500
open Sha Cha
theorem mulR {x y hi lo:Int} {w:World} (h:Calls Tryz.prog 127 #[.int .u64 x,.int .u64 y] w (fun e w'=>e=.returned (.tuple #[.int .u64 hi,.int .u64 lo])∧w'=w)):Calls Tryz.prog 127 #[.int .u64 x,.int .u64 y] w (Ret w (.tuple #[.int .u64 hi,.int .u64 lo])) :=
  h.mono fun e w' h=>⟨h.1,h.2▸zaT _⟩
set_option maxRecDepth 100000 in
theorem Qou (g : Nat) (q0_ q1_ q2_ q3_ q4_ q5_ xx yy p:Int) (hq0_:isW q0_) (hq1_:isW q1_) (hq2_:isW q2_) (hq3_:isW q3_) (hq4_:isW q4_) (hq5_:isW q5_) (hxx:isW xx) (hyy:isW yy) (hp:xx*yy=p) (hlt:(q0_+18446744073709551616*q1_+340282366920938463463374607431768211456*q2_+2^192*q3_+2^256*q4_+2^320*q5_)+1*p<2^384) (w:World) (hg:w.heap[g]? = some (.cells (ints .u64 [q0_,q1_,q2_,q3_,q4_,q5_]) 221)) :
    Calls Tryz.prog 150 #[.int .i64 0,.int .u64 xx,.int .u64 yy,.pointer (some ⟨g,0,none⟩)] w (fun e W=>e=.returned (.tuple #[])∧∃ r0 r1 r2 r3 r4 r5:Int,isW r0∧isW r1∧isW r2∧isW r3∧isW r4∧isW r5∧(r0+18446744073709551616*r1+340282366920938463463374607431768211456*r2+2^192*r3+2^256*r4+2^320*r5)=(q0_+18446744073709551616*q1_+340282366920938463463374607431768211456*q2_+2^192*q3_+2^256*q4_+2^320*q5_)+1*p∧ExtB g w W∧W.heap[g]? = some (.cells (ints .u64 [r0,r1,r2,r3,r4,r5]) 221)):=by
  refine enter 44 [(0,.int .i64 0),(1,.int .u64 (xx)),(2,.int .u64 (yy)),(3,.pointer (some ⟨g,0,none⟩))] Tryz.func150 rfl rfl kj rfl <| sgC fun K2 hK2=>sg 2 kj ?_
  obtain ⟨hi_,lo_,hhi,hlo,hml,cml⟩:=mul64 xx yy hxx hyy
  rw [hp] at hml
  refine Qas (.tuple #[.int .u64 (hi_),.int .u64 (lo_)]) 127 #[.int .u64 (xx),.int .u64 (yy)] 14 rfl kj kj ((mulR (cml _))) fun W1 e1=>sg 5 kj <| sgN hK2 <| sgB kj <| sgC fun K4 hK4=>sg 3 kj ?_
  have r1_1:=(Qaa hg e1)
  refine Qac (.int .u64 q0_) 21 rfl kj (Qaj 115 _ g 0 221 _ (.int .u64 q0_) _ r1_1 rfl kj kj kj) <| sg 1 kj ?_
  obtain ⟨s1,d1,hs1,hd1,he1,ra1⟩:=add64 (q0_) (lo_) (0) hq0_ hlo ⟨by decide,by decide⟩
  refine Qac (.tuple #[.int .u64 (s1),.int .u64 (d1)]) 23 rfl kj (Qbw (f:=111) (args:=#[.int .u64 q0_,.int .u64 (lo_),.int .u64 0]) _ _ _ rfl kj kj (ra1 _)) <| sg 4 kj <| Qai g _ (ints .u64 ([(s1),q1_,q2_,q3_,q4_,q5_])) 221 r1_1 rfl kj (Qa1 115 _ _ g 0 221 _ _ r1_1 rfl kj kj kj (show 0<6 by decide)) fun W2 p2 r1_2=>sg 1 kj <| sgN hK4 <| sgB kj <| wp_block <| wp_loop_rounds 6 ?_
  show zak _ _ (Exit.then (zal _ _ _ 5) _) _ _
  refine wp_seq_k fun K6 hK6=>sgB kj <| cond_true kj <| wp_skip <| hK6 _ _ <| wp_seq_k fun K8 hK8=>wp_block <| sgC fun K9 hK9=>sg 3 kj <| Qac (.int .u64 q1_) 37 rfl kj (Qaj 115 _ g 1 221 _ (.int .u64 q1_) _ r1_2 rfl kj kj kj) ?_
  refine sg 2 kj ?_
  obtain ⟨s2,d2,hs2,hd2,he2,ra2⟩:=add64 (q1_) (hi_) (d1) hq1_ hhi hd1
  refine Qac (.tuple #[.int .u64 (s2),.int .u64 (d2)]) 40 rfl kj (Qbw (f:=111) (args:=#[.int .u64 q1_,.int .u64 (hi_),.int .u64 (d1)]) _ _ _ rfl kj kj (ra2 _)) <| sg 4 kj <| Qai g _ (ints .u64 ([(s1),(s2),q2_,q3_,q4_,q5_])) 221 r1_2 rfl kj (Qa1 115 _ _ g 1 221 _ _ r1_2 rfl kj kj kj (show 1<6 by decide)) fun W3 p3 r1_3=>sg 1 kj <| sgN hK9 <| sgA kj <| hK8 _ _ <| sgA kj ?_
  show zal _ _ _ 5 _ _
  show zak _ _ (Exit.then (zal _ _ _ 4) _) _ _
  refine wp_seq_k fun K10 hK10=>sgB kj <| cond_true kj <| wp_skip <| hK10 _ _ <| wp_seq_k fun K12 hK12=>wp_block <| sgC fun K13 hK13=>sg 3 kj <| Qac (.int .u64 q2_) 37 rfl kj (Qaj 115 _ g 2 221 _ (.int .u64 q2_) _ r1_3 rfl kj kj kj) ?_
  refine sg 2 kj ?_
  obtain ⟨s3,d3,hs3,hd3,he3,ra3⟩:=add64 (q2_) (0) (d2) hq2_ zero_isW hd2
  refine Qac (.tuple #[.int .u64 (s3),.int .u64 (d3)]) 40 rfl kj (Qbw (f:=111) (args:=#[.int .u64 q2_,.int .u64 0,.int .u64 (d2)]) _ _ _ rfl kj kj (ra3 _)) <| sg 4 kj <| Qai g _ (ints .u64 ([(s1),(s2),(s3),q3_,q4_,q5_])) 221 r1_3 rfl kj (Qa1 115 _ _ g 2 221 _ _ r1_3 rfl kj kj kj (show 2<6 by decide)) fun W4 p4 r1_4=>sg 1 kj <| sgN hK13 <| sgA kj <| hK12 _ _ <| sgA kj ?_
  show zal _ _ _ 4 _ _
  show zak _ _ (Exit.then (zal _ _ _ 3) _) _ _
  refine wp_seq_k fun K14 hK14=>sgB kj <| cond_true kj <| wp_skip <| hK14 _ _ <| wp_seq_k fun K16 hK16=>wp_block <| sgC fun K17 hK17=>sg 3 kj <| Qac (.int .u64 q3_) 37 rfl kj (Qaj 115 _ g 3 221 _ (.int .u64 q3_) _ r1_4 rfl kj kj kj) ?_
  refine sg 2 kj ?_
  obtain ⟨s4,d4,hs4,hd4,he4,ra4⟩:=add64 (q3_) (0) (d3) hq3_ zero_isW hd3
  refine Qac (.tuple #[.int .u64 (s4),.int .u64 (d4)]) 40 rfl kj (Qbw (f:=111) (args:=#[.int .u64 q3_,.int .u64 0,.int .u64 (d3)]) _ _ _ rfl kj kj (ra4 _)) <| sg 4 kj <| Qai g _ (ints .u64 ([(s1),(s2),(s3),(s4),q4_,q5_])) 221 r1_4 rfl kj (Qa1 115 _ _ g 3 221 _ _ r1_4 rfl kj kj kj (show 3<6 by decide)) fun W5 p5 r1_5=>sg 1 kj <| sgN hK17 <| sgA kj <| hK16 _ _ <| sgA kj ?_
  show zal _ _ _ 3 _ _
  show zak _ _ (Exit.then (zal _ _ _ 2) _) _ _
  refine wp_seq_k fun K18 hK18=>sgB kj <| cond_true kj <| wp_skip <| hK18 _ _ <| wp_seq_k fun K20 hK20=>wp_block <| sgC fun K21 hK21=>sg 3 kj <| Qac (.int .u64 q4_) 37 rfl kj (Qaj 115 _ g 4 221 _ (.int .u64 q4_) _ r1_5 rfl kj kj kj) ?_
  refine sg 2 kj ?_
  obtain ⟨s5,d5,hs5,hd5,he5,ra5⟩:=add64 (q4_) (0) (d4) hq4_ zero_isW hd4
  refine Qac (.tuple #[.int .u64 (s5),.int .u64 (d5)]) 40 rfl kj (Qbw (f:=111) (args:=#[.int .u64 q4_,.int .u64 0,.int .u64 (d4)]) _ _ _ rfl kj kj (ra5 _)) <| sg 4 kj <| Qai g _ (ints .u64 ([(s1),(s2),(s3),(s4),(s5),q5_])) 221 r1_5 rfl kj (Qa1 115 _ _ g 4 221 _ _ r1_5 rfl kj kj kj (show 4<6 by decide)) fun W6 p6 r1_6=>sg 1 kj <| sgN hK21 <| sgA kj <| hK20 _ _ <| sgA kj ?_
  show zal _ _ _ 2 _ _
  show zak _ _ (Exit.then (zal _ _ _ 1) _) _ _
  refine wp_seq_k fun K22 hK22=>sgB kj <| cond_true kj <| wp_skip <| hK22 _ _ <| wp_seq_k fun K24 hK24=>wp_block <| sgC fun K25 hK25=>sg 3 kj <| Qac (.int .u64 q5_) 37 rfl kj (Qaj 115 _ g 5 221 _ (.int .u64 q5_) _ r1_6 rfl kj kj kj) ?_
  refine sg 2 kj ?_
  obtain ⟨s6,d6,hs6,hd6,he6,ra6⟩:=add64 (q5_) (0) (d5) hq5_ zero_isW hd5
  refine Qac (.tuple #[.int .u64 (s6),.int .u64 (d6)]) 40 rfl kj (Qbw (f:=111) (args:=#[.int .u64 q5_,.int .u64 0,.int .u64 (d5)]) _ _ _ rfl kj kj (ra6 _)) <| sg 4 kj <| Qai g _ (ints .u64 ([(s1),(s2),(s3),(s4),(s5),(s6)])) 221 r1_6 rfl kj (Qa1 115 _ _ g 5 221 _ _ r1_6 rfl kj kj kj (show 5<6 by decide)) fun W7 p7 r1_7=>sg 1 kj <| sgN hK25 <| sgA kj <| hK24 _ _ <| sgA kj ?_
  show zal _ _ _ 1 _ _
  show zak _ _ (Exit.then (zal _ _ _ 0) _) _ _
  refine wp_seq_k fun K26 hK26=>sgB kj <| cond_false kj <| wp_exit ?_
  repeat (first | with_reducible refine goX1 ?_ | with_reducible refine goX2 ?_ | with_reducible refine goX3 ?_)
  exact (show bodyPost _ _ _ .normal _ _ from end0 rfl ⟨rfl,s1,s2,s3,s4,s5,s6,hs1,hs2,hs3,hs4,hs5,hs6,(by obtain ⟨u1,v1⟩:=id hs1; obtain ⟨u2,v2⟩:=id hs2; obtain ⟨u3,v3⟩:=id hs3; obtain ⟨u4,v4⟩:=id hs4; obtain ⟨u5,v5⟩:=id hs5; obtain ⟨u6,v6⟩:=id hs6; obtain ⟨uq0,vq0⟩:=id hq0_; obtain ⟨uq1,vq1⟩:=id hq1_; obtain ⟨uq2,vq2⟩:=id hq2_; obtain ⟨uq3,vq3⟩:=id hq3_; obtain ⟨uq4,vq4⟩:=id hq4_; obtain ⟨uq5,vq5⟩:=id hq5_; obtain ⟨ud1,vd1⟩:=id hd1; obtain ⟨ud2,vd2⟩:=id hd2; obtain ⟨ud3,vd3⟩:=id hd3; obtain ⟨ud4,vd4⟩:=id hd4; obtain ⟨ud5,vd5⟩:=id hd5; obtain ⟨ud6,vd6⟩:=id hd6; obtain ⟨uh1,uh2⟩:=id hhi; obtain ⟨ul1,ul2⟩:=id hlo; omega),(zba (zba (zba (zba (zba (zba (zaZ (zaY g w) e1) p2) p3) p4) p5) p6) p7),r1_7⟩)
set_option maxRecDepth 100000 in
theorem QlY (g : Nat) (q0_ q1_ q2_ q3_ q4_ q5_ xx yy p:Int) (hq0_:isW q0_) (hq1_:isW q1_) (hq2_:isW q2_) (hq3_:isW q3_) (hq4_:isW q4_) (hq5_:isW q5_) (hxx:isW xx) (hyy:isW yy) (hp:xx*yy=p) (hlt:(q0_+18446744073709551616*q1_+340282366920938463463374607431768211456*q2_+2^192*q3_+2^256*q4_+2^320*q5_)+18446744073709551616*p<2^384) (w:World) (hg:w.heap[g]? = some (.cells (ints .u64 [q0_,q1_,q2_,q3_,q4_,q5_]) 221)) :
    Calls Tryz.prog 150 #[.int .i64 1,.int .u64 xx,.int .u64 yy,.pointer (some ⟨g,0,none⟩)] w (fun e W=>e=.returned (.tuple #[])∧∃ r0 r1 r2 r3 r4 r5:Int,isW r0∧isW r1∧isW r2∧isW r3∧isW r4∧isW r5∧(r0+18446744073709551616*r1+340282366920938463463374607431768211456*r2+2^192*r3+2^256*r4+2^320*r5)=(q0_+18446744073709551616*q1_+340282366920938463463374607431768211456*q2_+2^192*q3_+2^256*q4_+2^320*q5_)+18446744073709551616*p∧ExtB g w W∧W.heap[g]? = some (.cells (ints .u64 [r0,r1,r2,r3,r4,r5]) 221)):=by
  refine enter 44 [(0,.int .i64 1),(1,.int .u64 (xx)),(2,.int .u64 (yy)),(3,.pointer (some ⟨g,0,none⟩))] Tryz.func150 rfl rfl kj rfl <| sgC fun K2 hK2=>sg 2 kj ?_
  obtain ⟨hi_,lo_,hhi,hlo,hml,cml⟩:=mul64 xx yy hxx hyy
  rw [hp] at hml
  refine Qas (.tuple #[.int .u64 (hi_),.int .u64 (lo_)]) 127 #[.int .u64 (xx),.int .u64 (yy)] 14 rfl kj kj ((mulR (cml _))) fun W1 e1=>sg 5 kj <| sgN hK2 <| sgB kj <| sgC fun K4 hK4=>sg 3 kj ?_
  have r1_1:=(Qaa hg e1)
  refine Qac (.int .u64 q1_) 21 rfl kj (Qaj 115 _ g 1 221 _ (.int .u64 q1_) _ r1_1 rfl kj kj kj) <| sg 1 kj ?_
  obtain ⟨s1,d1,hs1,hd1,he1,ra1⟩:=add64 (q1_) (lo_) (0) hq1_ hlo ⟨by decide,by decide⟩
  refine Qac (.tuple #[.int .u64 (s1),.int .u64 (d1)]) 23 rfl kj (Qbw (f:=111) (args:=#[.int .u64 q1_,.int .u64 (lo_),.int .u64 0]) _ _ _ rfl kj kj (ra1 _)) <| sg 4 kj <| Qai g _ (ints .u64 ([q0_,(s1),q2_,q3_,q4_,q5_])) 221 r1_1 rfl kj (Qa1 115 _ _ g 1 221 _ _ r1_1 rfl kj kj kj (show 1<6 by decide)) fun W2 p2 r1_2=>sg 1 kj <| sgN hK4 <| sgB kj <| wp_block <| wp_loop_rounds 5 ?_
  show zak _ _ (Exit.then (zal _ _ _ 4) _) _ _
  refine wp_seq_k fun K6 hK6=>sgB kj <| cond_true kj <| wp_skip <| hK6 _ _ <| wp_seq_k fun K8 hK8=>wp_block <| sgC fun K9 hK9=>sg 3 kj <| Qac (.int .u64 q2_) 37 rfl kj (Qaj 115 _ g 2 221 _ (.int .u64 q2_) _ r1_2 rfl kj kj kj) ?_
  refine sg 2 kj ?_
  obtain ⟨s2,d2,hs2,hd2,he2,ra2⟩:=add64 (q2_) (hi_) (d1) hq2_ hhi hd1
  refine Qac (.tuple #[.int .u64 (s2),.int .u64 (d2)]) 40 rfl kj (Qbw (f:=111) (args:=#[.int .u64 q2_,.int .u64 (hi_),.int .u64 (d1)]) _ _ _ rfl kj kj (ra2 _)) <| sg 4 kj <| Qai g _ (ints .u64 ([q0_,(s1),(s2),q3_,q4_,q5_])) 221 r1_2 rfl kj (Qa1 115 _ _ g 2 221 _ _ r1_2 rfl kj kj kj (show 2<6 by decide)) fun W3 p3 r1_3=>sg 1 kj <| sgN hK9 <| sgA kj <| hK8 _ _ <| sgA kj ?_
  show zal _ _ _ 4 _ _
  show zak _ _ (Exit.then (zal _ _ _ 3) _) _ _
  refine wp_seq_k fun K10 hK10=>sgB kj <| cond_true kj <| wp_skip <| hK10 _ _ <| wp_seq_k fun K12 hK12=>wp_block <| sgC fun K13 hK13=>sg 3 kj <| Qac (.int .u64 q3_) 37 rfl kj (Qaj 115 _ g 3 221 _ (.int .u64 q3_) _ r1_3 rfl kj kj kj) ?_
  refine sg 2 kj ?_
  obtain ⟨s3,d3,hs3,hd3,he3,ra3⟩:=add64 (q3_) (0) (d2) hq3_ zero_isW hd2
  refine Qac (.tuple #[.int .u64 (s3),.int .u64 (d3)]) 40 rfl kj (Qbw (f:=111) (args:=#[.int .u64 q3_,.int .u64 0,.int .u64 (d2)]) _ _ _ rfl kj kj (ra3 _)) <| sg 4 kj <| Qai g _ (ints .u64 ([q0_,(s1),(s2),(s3),q4_,q5_])) 221 r1_3 rfl kj (Qa1 115 _ _ g 3 221 _ _ r1_3 rfl kj kj kj (show 3<6 by decide)) fun W4 p4 r1_4=>sg 1 kj <| sgN hK13 <| sgA kj <| hK12 _ _ <| sgA kj ?_
  show zal _ _ _ 3 _ _
  show zak _ _ (Exit.then (zal _ _ _ 2) _) _ _
  refine wp_seq_k fun K14 hK14=>sgB kj <| cond_true kj <| wp_skip <| hK14 _ _ <| wp_seq_k fun K16 hK16=>wp_block <| sgC fun K17 hK17=>sg 3 kj <| Qac (.int .u64 q4_) 37 rfl kj (Qaj 115 _ g 4 221 _ (.int .u64 q4_) _ r1_4 rfl kj kj kj) ?_
  refine sg 2 kj ?_
  obtain ⟨s4,d4,hs4,hd4,he4,ra4⟩:=add64 (q4_) (0) (d3) hq4_ zero_isW hd3
  refine Qac (.tuple #[.int .u64 (s4),.int .u64 (d4)]) 40 rfl kj (Qbw (f:=111) (args:=#[.int .u64 q4_,.int .u64 0,.int .u64 (d3)]) _ _ _ rfl kj kj (ra4 _)) <| sg 4 kj <| Qai g _ (ints .u64 ([q0_,(s1),(s2),(s3),(s4),q5_])) 221 r1_4 rfl kj (Qa1 115 _ _ g 4 221 _ _ r1_4 rfl kj kj kj (show 4<6 by decide)) fun W5 p5 r1_5=>sg 1 kj <| sgN hK17 <| sgA kj <| hK16 _ _ <| sgA kj ?_
  show zal _ _ _ 2 _ _
  show zak _ _ (Exit.then (zal _ _ _ 1) _) _ _
  refine wp_seq_k fun K18 hK18=>sgB kj <| cond_true kj <| wp_skip <| hK18 _ _ <| wp_seq_k fun K20 hK20=>wp_block <| sgC fun K21 hK21=>sg 3 kj <| Qac (.int .u64 q5_) 37 rfl kj (Qaj 115 _ g 5 221 _ (.int .u64 q5_) _ r1_5 rfl kj kj kj) ?_
  refine sg 2 kj ?_
  obtain ⟨s5,d5,hs5,hd5,he5,ra5⟩:=add64 (q5_) (0) (d4) hq5_ zero_isW hd4
  refine Qac (.tuple #[.int .u64 (s5),.int .u64 (d5)]) 40 rfl kj (Qbw (f:=111) (args:=#[.int .u64 q5_,.int .u64 0,.int .u64 (d4)]) _ _ _ rfl kj kj (ra5 _)) <| sg 4 kj <| Qai g _ (ints .u64 ([q0_,(s1),(s2),(s3),(s4),(s5)])) 221 r1_5 rfl kj (Qa1 115 _ _ g 5 221 _ _ r1_5 rfl kj kj kj (show 5<6 by decide)) fun W6 p6 r1_6=>sg 1 kj <| sgN hK21 <| sgA kj <| hK20 _ _ <| sgA kj ?_
  show zal _ _ _ 1 _ _
  show zak _ _ (Exit.then (zal _ _ _ 0) _) _ _
  refine wp_seq_k fun K22 hK22=>sgB kj <| cond_false kj <| wp_exit ?_
  repeat (first | with_reducible refine goX1 ?_ | with_reducible refine goX2 ?_ | with_reducible refine goX3 ?_)
  exact (show bodyPost _ _ _ .normal _ _ from end0 rfl ⟨rfl,q0_,s1,s2,s3,s4,s5,hq0_,hs1,hs2,hs3,hs4,hs5,(by obtain ⟨u1,v1⟩:=id hs1; obtain ⟨u2,v2⟩:=id hs2; obtain ⟨u3,v3⟩:=id hs3; obtain ⟨u4,v4⟩:=id hs4; obtain ⟨u5,v5⟩:=id hs5; obtain ⟨uq0,vq0⟩:=id hq0_; obtain ⟨uq1,vq1⟩:=id hq1_; obtain ⟨uq2,vq2⟩:=id hq2_; obtain ⟨uq3,vq3⟩:=id hq3_; obtain ⟨uq4,vq4⟩:=id hq4_; obtain ⟨uq5,vq5⟩:=id hq5_; obtain ⟨ud1,vd1⟩:=id hd1; obtain ⟨ud2,vd2⟩:=id hd2; obtain ⟨ud3,vd3⟩:=id hd3; obtain ⟨ud4,vd4⟩:=id hd4; obtain ⟨ud5,vd5⟩:=id hd5; obtain ⟨uh1,uh2⟩:=id hhi; obtain ⟨ul1,ul2⟩:=id hlo; omega),(zba (zba (zba (zba (zba (zaZ (zaY g w) e1) p2) p3) p4) p5) p6),r1_6⟩)
set_option maxRecDepth 100000 in
theorem QlX (g : Nat) (q0_ q1_ q2_ q3_ q4_ q5_ xx yy p:Int) (hq0_:isW q0_) (hq1_:isW q1_) (hq2_:isW q2_) (hq3_:isW q3_) (hq4_:isW q4_) (hq5_:isW q5_) (hxx:isW xx) (hyy:isW yy) (hp:xx*yy=p) (hlt:(q0_+18446744073709551616*q1_+340282366920938463463374607431768211456*q2_+2^192*q3_+2^256*q4_+2^320*q5_)+340282366920938463463374607431768211456*p<2^384) (w:World) (hg:w.heap[g]? = some (.cells (ints .u64 [q0_,q1_,q2_,q3_,q4_,q5_]) 221)) :
    Calls Tryz.prog 150 #[.int .i64 2,.int .u64 xx,.int .u64 yy,.pointer (some ⟨g,0,none⟩)] w (fun e W=>e=.returned (.tuple #[])∧∃ r0 r1 r2 r3 r4 r5:Int,isW r0∧isW r1∧isW r2∧isW r3∧isW r4∧isW r5∧(r0+18446744073709551616*r1+340282366920938463463374607431768211456*r2+2^192*r3+2^256*r4+2^320*r5)=(q0_+18446744073709551616*q1_+340282366920938463463374607431768211456*q2_+2^192*q3_+2^256*q4_+2^320*q5_)+340282366920938463463374607431768211456*p∧ExtB g w W∧W.heap[g]? = some (.cells (ints .u64 [r0,r1,r2,r3,r4,r5]) 221)):=by
  refine enter 44 [(0,.int .i64 2),(1,.int .u64 (xx)),(2,.int .u64 (yy)),(3,.pointer (some ⟨g,0,none⟩))] Tryz.func150 rfl rfl kj rfl <| sgC fun K2 hK2=>sg 2 kj ?_
  obtain ⟨hi_,lo_,hhi,hlo,hml,cml⟩:=mul64 xx yy hxx hyy
  rw [hp] at hml
  refine Qas (.tuple #[.int .u64 (hi_),.int .u64 (lo_)]) 127 #[.int .u64 (xx),.int .u64 (yy)] 14 rfl kj kj ((mulR (cml _))) fun W1 e1=>sg 5 kj <| sgN hK2 <| sgB kj <| sgC fun K4 hK4=>sg 3 kj ?_
  have r1_1:=(Qaa hg e1)
  refine Qac (.int .u64 q2_) 21 rfl kj (Qaj 115 _ g 2 221 _ (.int .u64 q2_) _ r1_1 rfl kj kj kj) <| sg 1 kj ?_
  obtain ⟨s1,d1,hs1,hd1,he1,ra1⟩:=add64 (q2_) (lo_) (0) hq2_ hlo ⟨by decide,by decide⟩
  refine Qac (.tuple #[.int .u64 (s1),.int .u64 (d1)]) 23 rfl kj (Qbw (f:=111) (args:=#[.int .u64 q2_,.int .u64 (lo_),.int .u64 0]) _ _ _ rfl kj kj (ra1 _)) <| sg 4 kj <| Qai g _ (ints .u64 ([q0_,q1_,(s1),q3_,q4_,q5_])) 221 r1_1 rfl kj (Qa1 115 _ _ g 2 221 _ _ r1_1 rfl kj kj kj (show 2<6 by decide)) fun W2 p2 r1_2=>sg 1 kj <| sgN hK4 <| sgB kj <| wp_block <| wp_loop_rounds 4 ?_
  show zak _ _ (Exit.then (zal _ _ _ 3) _) _ _
  refine wp_seq_k fun K6 hK6=>sgB kj <| cond_true kj <| wp_skip <| hK6 _ _ <| wp_seq_k fun K8 hK8=>wp_block <| sgC fun K9 hK9=>sg 3 kj <| Qac (.int .u64 q3_) 37 rfl kj (Qaj 115 _ g 3 221 _ (.int .u64 q3_) _ r1_2 rfl kj kj kj) ?_
  refine sg 2 kj ?_
  obtain ⟨s2,d2,hs2,hd2,he2,ra2⟩:=add64 (q3_) (hi_) (d1) hq3_ hhi hd1
  refine Qac (.tuple #[.int .u64 (s2),.int .u64 (d2)]) 40 rfl kj (Qbw (f:=111) (args:=#[.int .u64 q3_,.int .u64 (hi_),.int .u64 (d1)]) _ _ _ rfl kj kj (ra2 _)) <| sg 4 kj <| Qai g _ (ints .u64 ([q0_,q1_,(s1),(s2),q4_,q5_])) 221 r1_2 rfl kj (Qa1 115 _ _ g 3 221 _ _ r1_2 rfl kj kj kj (show 3<6 by decide)) fun W3 p3 r1_3=>sg 1 kj <| sgN hK9 <| sgA kj <| hK8 _ _ <| sgA kj ?_
  show zal _ _ _ 3 _ _
  show zak _ _ (Exit.then (zal _ _ _ 2) _) _ _
  refine wp_seq_k fun K10 hK10=>sgB kj <| cond_true kj <| wp_skip <| hK10 _ _ <| wp_seq_k fun K12 hK12=>wp_block <| sgC fun K13 hK13=>sg 3 kj <| Qac (.int .u64 q4_) 37 rfl kj (Qaj 115 _ g 4 221 _ (.int .u64 q4_) _ r1_3 rfl kj kj kj) ?_
  refine sg 2 kj ?_
  obtain ⟨s3,d3,hs3,hd3,he3,ra3⟩:=add64 (q4_) (0) (d2) hq4_ zero_isW hd2
  refine Qac (.tuple #[.int .u64 (s3),.int .u64 (d3)]) 40 rfl kj (Qbw (f:=111) (args:=#[.int .u64 q4_,.int .u64 0,.int .u64 (d2)]) _ _ _ rfl kj kj (ra3 _)) <| sg 4 kj <| Qai g _ (ints .u64 ([q0_,q1_,(s1),(s2),(s3),q5_])) 221 r1_3 rfl kj (Qa1 115 _ _ g 4 221 _ _ r1_3 rfl kj kj kj (show 4<6 by decide)) fun W4 p4 r1_4=>sg 1 kj <| sgN hK13 <| sgA kj <| hK12 _ _ <| sgA kj ?_
  show zal _ _ _ 2 _ _
  show zak _ _ (Exit.then (zal _ _ _ 1) _) _ _
  refine wp_seq_k fun K14 hK14=>sgB kj <| cond_true kj <| wp_skip <| hK14 _ _ <| wp_seq_k fun K16 hK16=>wp_block <| sgC fun K17 hK17=>sg 3 kj <| Qac (.int .u64 q5_) 37 rfl kj (Qaj 115 _ g 5 221 _ (.int .u64 q5_) _ r1_4 rfl kj kj kj) ?_
  refine sg 2 kj ?_
  obtain ⟨s4,d4,hs4,hd4,he4,ra4⟩:=add64 (q5_) (0) (d3) hq5_ zero_isW hd3
  refine Qac (.tuple #[.int .u64 (s4),.int .u64 (d4)]) 40 rfl kj (Qbw (f:=111) (args:=#[.int .u64 q5_,.int .u64 0,.int .u64 (d3)]) _ _ _ rfl kj kj (ra4 _)) <| sg 4 kj <| Qai g _ (ints .u64 ([q0_,q1_,(s1),(s2),(s3),(s4)])) 221 r1_4 rfl kj (Qa1 115 _ _ g 5 221 _ _ r1_4 rfl kj kj kj (show 5<6 by decide)) fun W5 p5 r1_5=>sg 1 kj <| sgN hK17 <| sgA kj <| hK16 _ _ <| sgA kj ?_
  show zal _ _ _ 1 _ _
  show zak _ _ (Exit.then (zal _ _ _ 0) _) _ _
  refine wp_seq_k fun K18 hK18=>sgB kj <| cond_false kj <| wp_exit ?_
  repeat (first | with_reducible refine goX1 ?_ | with_reducible refine goX2 ?_ | with_reducible refine goX3 ?_)
  exact (show bodyPost _ _ _ .normal _ _ from end0 rfl ⟨rfl,q0_,q1_,s1,s2,s3,s4,hq0_,hq1_,hs1,hs2,hs3,hs4,(by obtain ⟨u1,v1⟩:=id hs1; obtain ⟨u2,v2⟩:=id hs2; obtain ⟨u3,v3⟩:=id hs3; obtain ⟨u4,v4⟩:=id hs4; obtain ⟨uq0,vq0⟩:=id hq0_; obtain ⟨uq1,vq1⟩:=id hq1_; obtain ⟨uq2,vq2⟩:=id hq2_; obtain ⟨uq3,vq3⟩:=id hq3_; obtain ⟨uq4,vq4⟩:=id hq4_; obtain ⟨uq5,vq5⟩:=id hq5_; obtain ⟨ud1,vd1⟩:=id hd1; obtain ⟨ud2,vd2⟩:=id hd2; obtain ⟨ud3,vd3⟩:=id hd3; obtain ⟨ud4,vd4⟩:=id hd4; obtain ⟨uh1,uh2⟩:=id hhi; obtain ⟨ul1,ul2⟩:=id hlo; omega),(zba (zba (zba (zba (zaZ (zaY g w) e1) p2) p3) p4) p5),r1_5⟩)
set_option maxRecDepth 100000 in
theorem Qot (g : Nat) (q0_ q1_ q2_ q3_ q4_ q5_ xx yy p:Int) (hq0_:isW q0_) (hq1_:isW q1_) (hq2_:isW q2_) (hq3_:isW q3_) (hq4_:isW q4_) (hq5_:isW q5_) (hxx:isW xx) (hyy:isW yy) (hp:xx*yy=p) (hlt:(q0_+18446744073709551616*q1_+340282366920938463463374607431768211456*q2_+2^192*q3_+2^256*q4_+2^320*q5_)+2^192*p<2^384) (w:World) (hg:w.heap[g]? = some (.cells (ints .u64 [q0_,q1_,q2_,q3_,q4_,q5_]) 221)) :
    Calls Tryz.prog 150 #[.int .i64 3,.int .u64 xx,.int .u64 yy,.pointer (some ⟨g,0,none⟩)] w (fun e W=>e=.returned (.tuple #[])∧∃ r0 r1 r2 r3 r4 r5:Int,isW r0∧isW r1∧isW r2∧isW r3∧isW r4∧isW r5∧(r0+18446744073709551616*r1+340282366920938463463374607431768211456*r2+2^192*r3+2^256*r4+2^320*r5)=(q0_+18446744073709551616*q1_+340282366920938463463374607431768211456*q2_+2^192*q3_+2^256*q4_+2^320*q5_)+2^192*p∧ExtB g w W∧W.heap[g]? = some (.cells (ints .u64 [r0,r1,r2,r3,r4,r5]) 221)):=by
  refine enter 44 [(0,.int .i64 3),(1,.int .u64 (xx)),(2,.int .u64 (yy)),(3,.pointer (some ⟨g,0,none⟩))] Tryz.func150 rfl rfl kj rfl <| sgC fun K2 hK2=>sg 2 kj ?_
  obtain ⟨hi_,lo_,hhi,hlo,hml,cml⟩:=mul64 xx yy hxx hyy
  rw [hp] at hml
  refine Qas (.tuple #[.int .u64 (hi_),.int .u64 (lo_)]) 127 #[.int .u64 (xx),.int .u64 (yy)] 14 rfl kj kj ((mulR (cml _))) fun W1 e1=>sg 5 kj <| sgN hK2 <| sgB kj <| sgC fun K4 hK4=>sg 3 kj ?_
  have r1_1:=(Qaa hg e1)
  refine Qac (.int .u64 q3_) 21 rfl kj (Qaj 115 _ g 3 221 _ (.int .u64 q3_) _ r1_1 rfl kj kj kj) <| sg 1 kj ?_
  obtain ⟨s1,d1,hs1,hd1,he1,ra1⟩:=add64 (q3_) (lo_) (0) hq3_ hlo ⟨by decide,by decide⟩
  refine Qac (.tuple #[.int .u64 (s1),.int .u64 (d1)]) 23 rfl kj (Qbw (f:=111) (args:=#[.int .u64 q3_,.int .u64 (lo_),.int .u64 0]) _ _ _ rfl kj kj (ra1 _)) <| sg 4 kj <| Qai g _ (ints .u64 ([q0_,q1_,q2_,(s1),q4_,q5_])) 221 r1_1 rfl kj (Qa1 115 _ _ g 3 221 _ _ r1_1 rfl kj kj kj (show 3<6 by decide)) fun W2 p2 r1_2=>sg 1 kj <| sgN hK4 <| sgB kj <| wp_block <| wp_loop_rounds 3 ?_
  show zak _ _ (Exit.then (zal _ _ _ 2) _) _ _
  refine wp_seq_k fun K6 hK6=>sgB kj <| cond_true kj <| wp_skip <| hK6 _ _ <| wp_seq_k fun K8 hK8=>wp_block <| sgC fun K9 hK9=>sg 3 kj <| Qac (.int .u64 q4_) 37 rfl kj (Qaj 115 _ g 4 221 _ (.int .u64 q4_) _ r1_2 rfl kj kj kj) ?_
  refine sg 2 kj ?_
  obtain ⟨s2,d2,hs2,hd2,he2,ra2⟩:=add64 (q4_) (hi_) (d1) hq4_ hhi hd1
  refine Qac (.tuple #[.int .u64 (s2),.int .u64 (d2)]) 40 rfl kj (Qbw (f:=111) (args:=#[.int .u64 q4_,.int .u64 (hi_),.int .u64 (d1)]) _ _ _ rfl kj kj (ra2 _)) <| sg 4 kj <| Qai g _ (ints .u64 ([q0_,q1_,q2_,(s1),(s2),q5_])) 221 r1_2 rfl kj (Qa1 115 _ _ g 4 221 _ _ r1_2 rfl kj kj kj (show 4<6 by decide)) fun W3 p3 r1_3=>sg 1 kj <| sgN hK9 <| sgA kj <| hK8 _ _ <| sgA kj ?_
  show zal _ _ _ 2 _ _
  show zak _ _ (Exit.then (zal _ _ _ 1) _) _ _
  refine wp_seq_k fun K10 hK10=>sgB kj <| cond_true kj <| wp_skip <| hK10 _ _ <| wp_seq_k fun K12 hK12=>wp_block <| sgC fun K13 hK13=>sg 3 kj <| Qac (.int .u64 q5_) 37 rfl kj (Qaj 115 _ g 5 221 _ (.int .u64 q5_) _ r1_3 rfl kj kj kj) ?_
  refine sg 2 kj ?_
  obtain ⟨s3,d3,hs3,hd3,he3,ra3⟩:=add64 (q5_) (0) (d2) hq5_ zero_isW hd2
  refine Qac (.tuple #[.int .u64 (s3),.int .u64 (d3)]) 40 rfl kj (Qbw (f:=111) (args:=#[.int .u64 q5_,.int .u64 0,.int .u64 (d2)]) _ _ _ rfl kj kj (ra3 _)) <| sg 4 kj <| Qai g _ (ints .u64 ([q0_,q1_,q2_,(s1),(s2),(s3)])) 221 r1_3 rfl kj (Qa1 115 _ _ g 5 221 _ _ r1_3 rfl kj kj kj (show 5<6 by decide)) fun W4 p4 r1_4=>sg 1 kj <| sgN hK13 <| sgA kj <| hK12 _ _ <| sgA kj ?_
  show zal _ _ _ 1 _ _
  show zak _ _ (Exit.then (zal _ _ _ 0) _) _ _
  refine wp_seq_k fun K14 hK14=>sgB kj <| cond_false kj <| wp_exit ?_
  repeat (first | with_reducible refine goX1 ?_ | with_reducible refine goX2 ?_ | with_reducible refine goX3 ?_)
  exact (show bodyPost _ _ _ .normal _ _ from end0 rfl ⟨rfl,q0_,q1_,q2_,s1,s2,s3,hq0_,hq1_,hq2_,hs1,hs2,hs3,(by obtain ⟨u1,v1⟩:=id hs1; obtain ⟨u2,v2⟩:=id hs2; obtain ⟨u3,v3⟩:=id hs3; obtain ⟨uq0,vq0⟩:=id hq0_; obtain ⟨uq1,vq1⟩:=id hq1_; obtain ⟨uq2,vq2⟩:=id hq2_; obtain ⟨uq3,vq3⟩:=id hq3_; obtain ⟨uq4,vq4⟩:=id hq4_; obtain ⟨uq5,vq5⟩:=id hq5_; obtain ⟨ud1,vd1⟩:=id hd1; obtain ⟨ud2,vd2⟩:=id hd2; obtain ⟨ud3,vd3⟩:=id hd3; obtain ⟨uh1,uh2⟩:=id hhi; obtain ⟨ul1,ul2⟩:=id hlo; omega),(zba (zba (zba (zaZ (zaY g w) e1) p2) p3) p4),r1_4⟩)
set_option maxRecDepth 100000 in
theorem Qqs (g : Nat) (q0_ q1_ q2_ q3_ q4_ q5_ xx yy p:Int) (hq0_:isW q0_) (hq1_:isW q1_) (hq2_:isW q2_) (hq3_:isW q3_) (hq4_:isW q4_) (hq5_:isW q5_) (hxx:isW xx) (hyy:isW yy) (hp:xx*yy=p) (hlt:(q0_+18446744073709551616*q1_+340282366920938463463374607431768211456*q2_+2^192*q3_+2^256*q4_+2^320*q5_)+2^256*p<2^384) (w:World) (hg:w.heap[g]? = some (.cells (ints .u64 [q0_,q1_,q2_,q3_,q4_,q5_]) 221)) :
    Calls Tryz.prog 150 #[.int .i64 4,.int .u64 xx,.int .u64 yy,.pointer (some ⟨g,0,none⟩)] w (fun e W=>e=.returned (.tuple #[])∧∃ r0 r1 r2 r3 r4 r5:Int,isW r0∧isW r1∧isW r2∧isW r3∧isW r4∧isW r5∧(r0+18446744073709551616*r1+340282366920938463463374607431768211456*r2+2^192*r3+2^256*r4+2^320*r5)=(q0_+18446744073709551616*q1_+340282366920938463463374607431768211456*q2_+2^192*q3_+2^256*q4_+2^320*q5_)+2^256*p∧ExtB g w W∧W.heap[g]? = some (.cells (ints .u64 [r0,r1,r2,r3,r4,r5]) 221)):=by
  refine enter 44 [(0,.int .i64 4),(1,.int .u64 (xx)),(2,.int .u64 (yy)),(3,.pointer (some ⟨g,0,none⟩))] Tryz.func150 rfl rfl kj rfl <| sgC fun K2 hK2=>sg 2 kj ?_
  obtain ⟨hi_,lo_,hhi,hlo,hml,cml⟩:=mul64 xx yy hxx hyy
  rw [hp] at hml
  refine Qas (.tuple #[.int .u64 (hi_),.int .u64 (lo_)]) 127 #[.int .u64 (xx),.int .u64 (yy)] 14 rfl kj kj ((mulR (cml _))) fun W1 e1=>sg 5 kj <| sgN hK2 <| sgB kj <| sgC fun K4 hK4=>sg 3 kj ?_
  have r1_1:=(Qaa hg e1)
  refine Qac (.int .u64 q4_) 21 rfl kj (Qaj 115 _ g 4 221 _ (.int .u64 q4_) _ r1_1 rfl kj kj kj) <| sg 1 kj ?_
  obtain ⟨s1,d1,hs1,hd1,he1,ra1⟩:=add64 (q4_) (lo_) (0) hq4_ hlo ⟨by decide,by decide⟩
  refine Qac (.tuple #[.int .u64 (s1),.int .u64 (d1)]) 23 rfl kj (Qbw (f:=111) (args:=#[.int .u64 q4_,.int .u64 (lo_),.int .u64 0]) _ _ _ rfl kj kj (ra1 _)) <| sg 4 kj <| Qai g _ (ints .u64 ([q0_,q1_,q2_,q3_,(s1),q5_])) 221 r1_1 rfl kj (Qa1 115 _ _ g 4 221 _ _ r1_1 rfl kj kj kj (show 4<6 by decide)) fun W2 p2 r1_2=>sg 1 kj <| sgN hK4 <| sgB kj <| wp_block <| wp_loop_rounds 2 ?_
  show zak _ _ (Exit.then (zal _ _ _ 1) _) _ _
  refine wp_seq_k fun K6 hK6=>sgB kj <| cond_true kj <| wp_skip <| hK6 _ _ <| wp_seq_k fun K8 hK8=>wp_block <| sgC fun K9 hK9=>sg 3 kj <| Qac (.int .u64 q5_) 37 rfl kj (Qaj 115 _ g 5 221 _ (.int .u64 q5_) _ r1_2 rfl kj kj kj) ?_
  refine sg 2 kj ?_
  obtain ⟨s2,d2,hs2,hd2,he2,ra2⟩:=add64 (q5_) (hi_) (d1) hq5_ hhi hd1
  refine Qac (.tuple #[.int .u64 (s2),.int .u64 (d2)]) 40 rfl kj (Qbw (f:=111) (args:=#[.int .u64 q5_,.int .u64 (hi_),.int .u64 (d1)]) _ _ _ rfl kj kj (ra2 _)) <| sg 4 kj <| Qai g _ (ints .u64 ([q0_,q1_,q2_,q3_,(s1),(s2)])) 221 r1_2 rfl kj (Qa1 115 _ _ g 5 221 _ _ r1_2 rfl kj kj kj (show 5<6 by decide)) fun W3 p3 r1_3=>sg 1 kj <| sgN hK9 <| sgA kj <| hK8 _ _ <| sgA kj ?_
  show zal _ _ _ 1 _ _
  show zak _ _ (Exit.then (zal _ _ _ 0) _) _ _
  refine wp_seq_k fun K10 hK10=>sgB kj <| cond_false kj <| wp_exit ?_
  repeat (first | with_reducible refine goX1 ?_ | with_reducible refine goX2 ?_ | with_reducible refine goX3 ?_)
  exact (show bodyPost _ _ _ .normal _ _ from end0 rfl ⟨rfl,q0_,q1_,q2_,q3_,s1,s2,hq0_,hq1_,hq2_,hq3_,hs1,hs2,(by obtain ⟨u1,v1⟩:=id hs1; obtain ⟨u2,v2⟩:=id hs2; obtain ⟨uq0,vq0⟩:=id hq0_; obtain ⟨uq1,vq1⟩:=id hq1_; obtain ⟨uq2,vq2⟩:=id hq2_; obtain ⟨uq3,vq3⟩:=id hq3_; obtain ⟨uq4,vq4⟩:=id hq4_; obtain ⟨uq5,vq5⟩:=id hq5_; obtain ⟨ud1,vd1⟩:=id hd1; obtain ⟨ud2,vd2⟩:=id hd2; obtain ⟨uh1,uh2⟩:=id hhi; obtain ⟨ul1,ul2⟩:=id hlo; omega),(zba (zba (zaZ (zaY g w) e1) p2) p3),r1_3⟩)
end Ae
end
section
namespace Ae
open Go Go.RowKit
open Rely Auto Own Sha
set_option exponentiation.threshold 500
open Sha Cha
def mulV (v : Int):Int:=v%1361129467683753853853498429727072845824+5*(v/1361129467683753853853498429727072845824)
theorem shr2 (q : Int) (h:isW q):q.fdiv (2^min (2:Int).toNat zac.bits)=q/4:=by
  have e:(2:Int)^min (2:Int).toNat zac.bits=4:=by decide
  rw [e,za1 _ (by decide)]
theorem QqZ (q : Int) (h:isW q):zac.wrap (q*2^min (62:Int).toNat zac.bits)=q%4*4611686018427387904:=by
  have e:(2:Int)^min (62:Int).toNat zac.bits=4611686018427387904:=by decide
  have h3:∀ z:Int,zac.wrap z=z%18446744073709551616:=fun _=>rfl
  rw [e,h3]
  obtain ⟨h1,h2⟩:=h
  omega
theorem or62 (q r:Int) (hq:isW q) (hr:isW r):bits .or .u64 (q/4) (r%4*4611686018427387904)=q/4+r%4*4611686018427387904:=by
  obtain ⟨q0,q1⟩:=hq
  obtain ⟨r0,r1⟩:=hr
  obtain ⟨A,hA⟩:=zaa (show 0≤q/4 by omega)
  obtain ⟨C,hC⟩:=zaa (show 0≤r%4 by omega)
  rw [hA,hC]
  have hA2:A<2^62:=by omega
  have hC2:C<4:=by omega
  have e:((C:Nat):Int)*4611686018427387904=((C*4611686018427387904:Nat):Int):=by rw [zae]; rfl
  rw [e,bits_or_u64_nat A (C*4611686018427387904) (by omega) (by omega)]
  have h:=zaf hA2 C
  rw [zag] at h
  rw [Nat.or_comm,←show C*2^62=C*4611686018427387904 from rfl,←h]
  rw [zah]; omega
theorem and3 (q : Int) (h:isW q):bits .and .u64 q 3=q%4:=by
  obtain ⟨A,rfl⟩:=zaa h.1
  have h:=bits_and_u64_nat A 3 (by have:=h.2; omega) (by omega)
  have e:A&&&3=A%4:=zab A 2
  rw [e] at h
  exact h
theorem Qpm {a0 a1 a2 a3 a4 a5 e0 e1 f0 f1 f2 f3 f4 f5 v:Int} (ha0:isW a0) (ha1:isW a1) (ha2:isW a2) (ha3:isW a3) (ha4:isW a4) (ha5:isW a5) (hf0:isW f0) (hf1:isW f1) (hf2:isW f2) (hf3:isW f3) (hf4:isW f4) (hf5:isW f5)
    (ha:(a0+18446744073709551616*a1+340282366920938463463374607431768211456*a2+2^192*a3+2^256*a4+2^320*a5)=v) (hv:v<2^256) (h0:e0=a2/4+a3%4*4611686018427387904) (h1:e1=a3/4)
    (hf:(f0+18446744073709551616*f1+340282366920938463463374607431768211456*f2+2^192*f3+2^256*f4+2^320*f5)=(a0+18446744073709551616*a1+340282366920938463463374607431768211456*(a2%4))+5*e0+18446744073709551616*(5*e1)):f0+18446744073709551616*f1+340282366920938463463374607431768211456*f2=mulV v:=by
  obtain ⟨a0a,a0b⟩:=ha0
  obtain ⟨a1a,a1b⟩:=ha1
  obtain ⟨a2a,a2b⟩:=ha2
  obtain ⟨a3a,a3b⟩:=ha3
  obtain ⟨a4a,-⟩:=ha4
  obtain ⟨a5a,-⟩:=ha5
  obtain ⟨f0a,f0b⟩:=hf0
  obtain ⟨f1a,f1b⟩:=hf1
  obtain ⟨f2a,f2b⟩:=hf2
  obtain ⟨f3a,-⟩:=hf3
  obtain ⟨f4a,-⟩:=hf4
  obtain ⟨f5a,-⟩:=hf5
  have z5:a5=0:=by omega
  have z4:a4=0:=by omega
  subst z5 z4
  have e3:v=a0+18446744073709551616*a1+340282366920938463463374607431768211456*(a2%4)+1361129467683753853853498429727072845824*(a2/4+4611686018427387904*a3):=by omega
  have hl:0≤a0+18446744073709551616*a1+340282366920938463463374607431768211456*(a2%4)∧a0+18446744073709551616*a1+340282366920938463463374607431768211456*(a2%4)<1361129467683753853853498429727072845824:=by omega
  have hm:v%1361129467683753853853498429727072845824=a0+18446744073709551616*a1+340282366920938463463374607431768211456*(a2%4):=by omega
  have hd:v/1361129467683753853853498429727072845824=a2/4+4611686018427387904*a3:=by omega
  have he:e0+18446744073709551616*e1=a2/4+4611686018427387904*a3:=by omega
  have hlt:a2/4+4611686018427387904*a3<85070591730234615865843651857942052864:=by omega
  have hsum:(f0+18446744073709551616*f1+340282366920938463463374607431768211456*f2+2^192*f3+2^256*f4+2^320*f5)<2722258935367507707706996859454145691648:=by omega
  have y5:f5=0:=by omega
  have y4:f4=0:=by omega
  have y3:f3=0:=by omega
  subst y5 y4 y3
  unfold mulV
  rw [hm,hd]
  omega
theorem Qiu {a b:Int} (ha:0≤a) (hb:0≤b) (ha2:a<5444517870735015415413993718908291383296) (hb2:b<21267647932558653966460912964485513216):a*b<2^256:=by
  have h1:a*b≤a*21267647932558653966460912964485513216:=za2 (by omega) ha
  omega
set_option maxRecDepth 100000 in
theorem mulW (m0_ m1_ m2_ n0_ n1_ n2_ va vb:Int) (hm0_:isW m0_) (hm1_:isW m1_) (hm2_:isW m2_) (hn0_:isW n0_) (hn1_:isW n1_) (hn2_:isW n2_) (hva:(m0_+18446744073709551616*m1_+340282366920938463463374607431768211456*m2_)=va) (hvb:(n0_+18446744073709551616*n1_+340282366920938463463374607431768211456*n2_)=vb) (hal:va<5444517870735015415413993718908291383296) (hbl:vb<21267647932558653966460912964485513216) (w:World) :
    Calls Tryz.prog 149 #[.agg (ints .u64 [m0_,m1_,m2_]),.agg (ints .u64 [n0_,n1_,n2_])] w (Ret w (.agg (ints .u64 (nw3 (mulV (va*vb)))))):=by
  obtain ⟨p00,ep00⟩:∃ z,z=m0_*n0_:=⟨_,rfl⟩
  have hp00:0≤p00:=by rw [ep00]; exact zai hm0_.1 hn0_.1
  obtain ⟨p01,ep01⟩:∃ z,z=m0_*n1_:=⟨_,rfl⟩
  have hp01:0≤p01:=by rw [ep01]; exact zai hm0_.1 hn1_.1
  obtain ⟨p02,ep02⟩:∃ z,z=m0_*n2_:=⟨_,rfl⟩
  have hp02:0≤p02:=by rw [ep02]; exact zai hm0_.1 hn2_.1
  obtain ⟨p10,ep10⟩:∃ z,z=m1_*n0_:=⟨_,rfl⟩
  have hp10:0≤p10:=by rw [ep10]; exact zai hm1_.1 hn0_.1
  obtain ⟨p11,ep11⟩:∃ z,z=m1_*n1_:=⟨_,rfl⟩
  have hp11:0≤p11:=by rw [ep11]; exact zai hm1_.1 hn1_.1
  obtain ⟨p12,ep12⟩:∃ z,z=m1_*n2_:=⟨_,rfl⟩
  have hp12:0≤p12:=by rw [ep12]; exact zai hm1_.1 hn2_.1
  obtain ⟨p20,ep20⟩:∃ z,z=m2_*n0_:=⟨_,rfl⟩
  have hp20:0≤p20:=by rw [ep20]; exact zai hm2_.1 hn0_.1
  obtain ⟨p21,ep21⟩:∃ z,z=m2_*n1_:=⟨_,rfl⟩
  have hp21:0≤p21:=by rw [ep21]; exact zai hm2_.1 hn1_.1
  obtain ⟨p22,ep22⟩:∃ z,z=m2_*n2_:=⟨_,rfl⟩
  have hp22:0≤p22:=by rw [ep22]; exact zai hm2_.1 hn2_.1
  have hT:1*p00+18446744073709551616*p01+340282366920938463463374607431768211456*p02+18446744073709551616*p10+340282366920938463463374607431768211456*p11+2^192*p12+340282366920938463463374607431768211456*p20+2^192*p21+2^256*p22=va*vb:=by rw [ep00,ep01,ep02,ep10,ep11,ep12,ep20,ep21,ep22,←hva,←hvb]; grind
  have hTl:1*p00+18446744073709551616*p01+340282366920938463463374607431768211456*p02+18446744073709551616*p10+340282366920938463463374607431768211456*p11+2^192*p12+340282366920938463463374607431768211456*p20+2^192*p21+2^256*p22<2^256:=by
    rw [hT]
    obtain ⟨a0,a1⟩:=id hm0_; obtain ⟨a2,a3⟩:=id hm1_; obtain ⟨a4,a5⟩:=id hm2_; obtain ⟨c0,c1⟩:=id hn0_; obtain ⟨c2,c3⟩:=id hn1_; obtain ⟨c4,c5⟩:=id hn2_
    exact Qiu (by omega) (by omega) hal hbl
  refine enter 70 [(0,.agg (ints .u64 ([m0_,m1_,m2_]))),(1,.agg (ints .u64 ([n0_,n1_,n2_])))] Tryz.func149 rfl rfl kj rfl <| sgC fun K1 hK1=>Qak (ints .u64 ([m0_,m1_,m2_])) 212 2 rfl kj kj fun g2 W1 l2 e1 r2_1=>?_
  have x1:=zaX (zaT w) e1
  have b2:=qT (zaT w).size l2
  refine Qak (ints .u64 ([n0_,n1_,n2_])) 212 3 rfl kj kj fun g3 W2 l3 e2 r3_2=>?_
  have x2:=zaX x1 e2
  have b3:=qT x1.size l3
  refine Qak (ints .u64 ([0,0,0])) 212 4 rfl kj kj fun g4 W3 l4 e3 r4_3=>?_
  have x3:=zaX x2 e3
  refine sgN hK1 <| sgC fun K5 hK5=>Qak (ints .u64 ([0,0,0,0,0,0])) 221 5 rfl kj kj fun g6 W4 l6 e4 r6_4=>?_
  have b6:=qT x3.size l6
  refine sgN hK5 <| sgB kj <| wp_seq_k fun K8 hK8=>sgC fun K9 hK9=>Qac (.agg (ints .u64 ([m0_,m1_,m2_]))) 15 rfl kj (Qae 212 _ g2 212 _ _ (Qaa (Qaa (Qaa r2_1 e2) e3) e4) rfl kj kj (isz (n:=3) kj kj)) <| sg 1 kj <| sgN hK9 <| wp_block <| wp_loop_rounds 4 ?_
  show zak _ _ (Exit.then (zal _ _ _ 3) _) _ _
  refine sgB kj <| sgT kj <| wp_seq_k fun K12 hK12=>wp_block <| sgC fun K13 hK13=>sg 1 kj <| Qac (.int .u64 m0_) 19 rfl kj (QaB 212 _ _ .i64 .u64 ([m0_,m1_,m2_]) 0 3 115 m0_ rfl kj kj kj kj kj rfl (by decide) rfl) <| sg 2 kj <| sgN hK13 <| sgC fun K14 hK14=>?_
  have r3_3:=(Qaa r3_2 e3)
  have r3_4:=(Qaa r3_3 e4)
  refine Qac (.agg (ints .u64 ([n0_,n1_,n2_]))) 20 rfl kj (Qae 212 _ g3 212 _ _ r3_4 rfl kj kj (isz (n:=3) kj kj)) <| sg 1 kj <| sgN hK14 <| wp_block <| wp_loop_rounds 4 ?_
  show zak _ _ (Exit.then (zal _ _ _ 3) _) _ _
  refine sgB kj <| sgT kj <| wp_seq_k fun K17 hK17=>wp_block <| sgC fun K18 hK18=>sg 1 kj <| Qac (.int .u64 n0_) 24 rfl kj (QaB 212 _ _ .i64 .u64 ([n0_,n1_,n2_]) 0 3 115 n0_ rfl kj kj kj kj kj rfl (by decide) rfl) <| sg 2 kj <| sgN hK18 <| Qao ?_
  refine sg 6 kj <| Qaw (fun v W'=>v=.tuple #[]∧∃ r0 r1 r2 r3 r4 r5:Int,isW r0∧isW r1∧isW r2∧isW r3∧isW r4∧isW r5∧(r0+18446744073709551616*r1+340282366920938463463374607431768211456*r2+2^192*r3+2^256*r4+2^320*r5)=(0+18446744073709551616*0+340282366920938463463374607431768211456*0+2^192*0+2^256*0+2^320*0)+1*p00∧ExtB g6 W4 W'∧W'.heap[g6]? = some (.cells (ints .u64 [r0,r1,r2,r3,r4,r5]) 221)) 150 #[.int .i64 0,.int .u64 m0_,.int .u64 n0_,.pointer (some ⟨g6,0,none⟩)] 31 rfl kj kj ((Qou g6 0 0 0 0 0 0 m0_ n0_ p00 zero_isW zero_isW zero_isW zero_isW zero_isW zero_isW hm0_ hn0_ ep00.symm (by omega) _ r6_4).mono fun e w' h=>⟨_,h.1,rfl,h.2⟩) fun v W5 h=>?_
  obtain ⟨rfl,z1w0,z1w1,z1w2,z1w3,z1w4,z1w5,hz1w0,hz1w1,hz1w2,hz1w3,hz1w4,hz1w5,hV1,q5,r6_5⟩:=h
  have hS1:(z1w0+18446744073709551616*z1w1+340282366920938463463374607431768211456*z1w2+2^192*z1w3+2^256*z1w4+2^320*z1w5)=1*p00:=by omega
  refine Qaz <| hK17 _ _ <| sgA kj ?_
  show zal _ _ _ 3 _ _
  show zak _ _ (Exit.then (zal _ _ _ 2) _) _ _
  refine sgB kj <| sgT kj <| wp_seq_k fun K21 hK21=>wp_block <| sgC fun K22 hK22=>sg 1 kj <| Qac (.int .u64 n1_) 24 rfl kj (QaB 212 _ _ .i64 .u64 ([n0_,n1_,n2_]) 1 3 115 n1_ rfl kj kj kj kj kj rfl (by decide) rfl) <| sg 2 kj <| sgN hK22 <| Qao ?_
  refine sg 6 kj <| Qaw (fun v W'=>v=.tuple #[]∧∃ r0 r1 r2 r3 r4 r5:Int,isW r0∧isW r1∧isW r2∧isW r3∧isW r4∧isW r5∧(r0+18446744073709551616*r1+340282366920938463463374607431768211456*r2+2^192*r3+2^256*r4+2^320*r5)=(z1w0+18446744073709551616*z1w1+340282366920938463463374607431768211456*z1w2+2^192*z1w3+2^256*z1w4+2^320*z1w5)+18446744073709551616*p01∧ExtB g6 W5 W'∧W'.heap[g6]? = some (.cells (ints .u64 [r0,r1,r2,r3,r4,r5]) 221)) 150 #[.int .i64 1,.int .u64 m0_,.int .u64 n1_,.pointer (some ⟨g6,0,none⟩)] 31 rfl kj kj ((QlY g6 z1w0 z1w1 z1w2 z1w3 z1w4 z1w5 m0_ n1_ p01 hz1w0 hz1w1 hz1w2 hz1w3 hz1w4 hz1w5 hm0_ hn1_ ep01.symm (by rw [hS1]; omega) _ r6_5).mono fun e w' h=>⟨_,h.1,rfl,h.2⟩) fun v W6 h=>?_
  obtain ⟨rfl,z2w0,z2w1,z2w2,z2w3,z2w4,z2w5,hz2w0,hz2w1,hz2w2,hz2w3,hz2w4,hz2w5,hV2,q6,r6_6⟩:=h
  have hS2:(z2w0+18446744073709551616*z2w1+340282366920938463463374607431768211456*z2w2+2^192*z2w3+2^256*z2w4+2^320*z2w5)=1*p00+18446744073709551616*p01:=by omega
  refine Qaz <| hK21 _ _ <| sgA kj ?_
  show zal _ _ _ 2 _ _
  show zak _ _ (Exit.then (zal _ _ _ 1) _) _ _
  refine sgB kj <| sgT kj <| wp_seq_k fun K25 hK25=>wp_block <| sgC fun K26 hK26=>sg 1 kj <| Qac (.int .u64 n2_) 24 rfl kj (QaB 212 _ _ .i64 .u64 ([n0_,n1_,n2_]) 2 3 115 n2_ rfl kj kj kj kj kj rfl (by decide) rfl) <| sg 2 kj <| sgN hK26 <| Qao ?_
  refine sg 6 kj <| Qaw (fun v W'=>v=.tuple #[]∧∃ r0 r1 r2 r3 r4 r5:Int,isW r0∧isW r1∧isW r2∧isW r3∧isW r4∧isW r5∧(r0+18446744073709551616*r1+340282366920938463463374607431768211456*r2+2^192*r3+2^256*r4+2^320*r5)=(z2w0+18446744073709551616*z2w1+340282366920938463463374607431768211456*z2w2+2^192*z2w3+2^256*z2w4+2^320*z2w5)+340282366920938463463374607431768211456*p02∧ExtB g6 W6 W'∧W'.heap[g6]? = some (.cells (ints .u64 [r0,r1,r2,r3,r4,r5]) 221)) 150 #[.int .i64 2,.int .u64 m0_,.int .u64 n2_,.pointer (some ⟨g6,0,none⟩)] 31 rfl kj kj ((QlX g6 z2w0 z2w1 z2w2 z2w3 z2w4 z2w5 m0_ n2_ p02 hz2w0 hz2w1 hz2w2 hz2w3 hz2w4 hz2w5 hm0_ hn2_ ep02.symm (by rw [hS2]; omega) _ r6_6).mono fun e w' h=>⟨_,h.1,rfl,h.2⟩) fun v W7 h=>?_
  obtain ⟨rfl,z3w0,z3w1,z3w2,z3w3,z3w4,z3w5,hz3w0,hz3w1,hz3w2,hz3w3,hz3w4,hz3w5,hV3,q7,r6_7⟩:=h
  have hS3:(z3w0+18446744073709551616*z3w1+340282366920938463463374607431768211456*z3w2+2^192*z3w3+2^256*z3w4+2^320*z3w5)=1*p00+18446744073709551616*p01+340282366920938463463374607431768211456*p02:=by omega
  refine Qaz <| hK25 _ _ <| sgA kj ?_
  show zal _ _ _ 1 _ _
  show zak _ _ (Exit.then (zal _ _ _ 0) _) _ _
  refine sgB kj <| wp_seq_k fun K28 hK28=>cond_false kj <| wp_exit <| hK12 _ _ <| sgA kj ?_
  show zal _ _ _ 3 _ _
  show zak _ _ (Exit.then (zal _ _ _ 2) _) _ _
  refine sgB kj <| sgT kj <| wp_seq_k fun K31 hK31=>wp_block <| sgC fun K32 hK32=>sg 1 kj <| Qac (.int .u64 m1_) 19 rfl kj (QaB 212 _ _ .i64 .u64 ([m0_,m1_,m2_]) 1 3 115 m1_ rfl kj kj kj kj kj rfl (by decide) rfl) <| sg 2 kj <| sgN hK32 <| sgC fun K33 hK33=>?_
  have r3_7:=(zbb q7 (zbb q6 (zbb q5 r3_4 (Qad r3_3 l6)) (Qad r3_3 l6)) (Qad r3_3 l6))
  refine Qac (.agg (ints .u64 ([n0_,n1_,n2_]))) 20 rfl kj (Qae 212 _ g3 212 _ _ r3_7 rfl kj kj (isz (n:=3) kj kj)) <| sg 1 kj <| sgN hK33 <| wp_block <| wp_loop_rounds 4 ?_
  show zak _ _ (Exit.then (zal _ _ _ 3) _) _ _
  refine sgB kj <| sgT kj <| wp_seq_k fun K36 hK36=>wp_block <| sgC fun K37 hK37=>sg 1 kj <| Qac (.int .u64 n0_) 24 rfl kj (QaB 212 _ _ .i64 .u64 ([n0_,n1_,n2_]) 0 3 115 n0_ rfl kj kj kj kj kj rfl (by decide) rfl) <| sg 2 kj <| sgN hK37 <| Qao ?_
  refine sg 6 kj <| Qaw (fun v W'=>v=.tuple #[]∧∃ r0 r1 r2 r3 r4 r5:Int,isW r0∧isW r1∧isW r2∧isW r3∧isW r4∧isW r5∧(r0+18446744073709551616*r1+340282366920938463463374607431768211456*r2+2^192*r3+2^256*r4+2^320*r5)=(z3w0+18446744073709551616*z3w1+340282366920938463463374607431768211456*z3w2+2^192*z3w3+2^256*z3w4+2^320*z3w5)+18446744073709551616*p10∧ExtB g6 W7 W'∧W'.heap[g6]? = some (.cells (ints .u64 [r0,r1,r2,r3,r4,r5]) 221)) 150 #[.int .i64 1,.int .u64 m1_,.int .u64 n0_,.pointer (some ⟨g6,0,none⟩)] 31 rfl kj kj ((QlY g6 z3w0 z3w1 z3w2 z3w3 z3w4 z3w5 m1_ n0_ p10 hz3w0 hz3w1 hz3w2 hz3w3 hz3w4 hz3w5 hm1_ hn0_ ep10.symm (by rw [hS3]; omega) _ r6_7).mono fun e w' h=>⟨_,h.1,rfl,h.2⟩) fun v W8 h=>?_
  obtain ⟨rfl,z4w0,z4w1,z4w2,z4w3,z4w4,z4w5,hz4w0,hz4w1,hz4w2,hz4w3,hz4w4,hz4w5,hV4,q8,r6_8⟩:=h
  have hS4:(z4w0+18446744073709551616*z4w1+340282366920938463463374607431768211456*z4w2+2^192*z4w3+2^256*z4w4+2^320*z4w5)=1*p00+18446744073709551616*p01+340282366920938463463374607431768211456*p02+18446744073709551616*p10:=by omega
  refine Qaz <| hK36 _ _ <| sgA kj ?_
  show zal _ _ _ 3 _ _
  show zak _ _ (Exit.then (zal _ _ _ 2) _) _ _
  refine sgB kj <| sgT kj <| wp_seq_k fun K40 hK40=>wp_block <| sgC fun K41 hK41=>sg 1 kj <| Qac (.int .u64 n1_) 24 rfl kj (QaB 212 _ _ .i64 .u64 ([n0_,n1_,n2_]) 1 3 115 n1_ rfl kj kj kj kj kj rfl (by decide) rfl) <| sg 2 kj <| sgN hK41 <| Qao ?_
  refine sg 6 kj <| Qaw (fun v W'=>v=.tuple #[]∧∃ r0 r1 r2 r3 r4 r5:Int,isW r0∧isW r1∧isW r2∧isW r3∧isW r4∧isW r5∧(r0+18446744073709551616*r1+340282366920938463463374607431768211456*r2+2^192*r3+2^256*r4+2^320*r5)=(z4w0+18446744073709551616*z4w1+340282366920938463463374607431768211456*z4w2+2^192*z4w3+2^256*z4w4+2^320*z4w5)+340282366920938463463374607431768211456*p11∧ExtB g6 W8 W'∧W'.heap[g6]? = some (.cells (ints .u64 [r0,r1,r2,r3,r4,r5]) 221)) 150 #[.int .i64 2,.int .u64 m1_,.int .u64 n1_,.pointer (some ⟨g6,0,none⟩)] 31 rfl kj kj ((QlX g6 z4w0 z4w1 z4w2 z4w3 z4w4 z4w5 m1_ n1_ p11 hz4w0 hz4w1 hz4w2 hz4w3 hz4w4 hz4w5 hm1_ hn1_ ep11.symm (by rw [hS4]; omega) _ r6_8).mono fun e w' h=>⟨_,h.1,rfl,h.2⟩) fun v W9 h=>?_
  obtain ⟨rfl,z5w0,z5w1,z5w2,z5w3,z5w4,z5w5,hz5w0,hz5w1,hz5w2,hz5w3,hz5w4,hz5w5,hV5,q9,r6_9⟩:=h
  have hS5:(z5w0+18446744073709551616*z5w1+340282366920938463463374607431768211456*z5w2+2^192*z5w3+2^256*z5w4+2^320*z5w5)=1*p00+18446744073709551616*p01+340282366920938463463374607431768211456*p02+18446744073709551616*p10+340282366920938463463374607431768211456*p11:=by omega
  refine Qaz <| hK40 _ _ <| sgA kj ?_
  show zal _ _ _ 2 _ _
  show zak _ _ (Exit.then (zal _ _ _ 1) _) _ _
  refine sgB kj <| sgT kj <| wp_seq_k fun K44 hK44=>wp_block <| sgC fun K45 hK45=>sg 1 kj <| Qac (.int .u64 n2_) 24 rfl kj (QaB 212 _ _ .i64 .u64 ([n0_,n1_,n2_]) 2 3 115 n2_ rfl kj kj kj kj kj rfl (by decide) rfl) <| sg 2 kj <| sgN hK45 <| Qao ?_
  refine sg 6 kj <| Qaw (fun v W'=>v=.tuple #[]∧∃ r0 r1 r2 r3 r4 r5:Int,isW r0∧isW r1∧isW r2∧isW r3∧isW r4∧isW r5∧(r0+18446744073709551616*r1+340282366920938463463374607431768211456*r2+2^192*r3+2^256*r4+2^320*r5)=(z5w0+18446744073709551616*z5w1+340282366920938463463374607431768211456*z5w2+2^192*z5w3+2^256*z5w4+2^320*z5w5)+2^192*p12∧ExtB g6 W9 W'∧W'.heap[g6]? = some (.cells (ints .u64 [r0,r1,r2,r3,r4,r5]) 221)) 150 #[.int .i64 3,.int .u64 m1_,.int .u64 n2_,.pointer (some ⟨g6,0,none⟩)] 31 rfl kj kj ((Qot g6 z5w0 z5w1 z5w2 z5w3 z5w4 z5w5 m1_ n2_ p12 hz5w0 hz5w1 hz5w2 hz5w3 hz5w4 hz5w5 hm1_ hn2_ ep12.symm (by rw [hS5]; omega) _ r6_9).mono fun e w' h=>⟨_,h.1,rfl,h.2⟩) fun v W10 h=>?_
  obtain ⟨rfl,z6w0,z6w1,z6w2,z6w3,z6w4,z6w5,hz6w0,hz6w1,hz6w2,hz6w3,hz6w4,hz6w5,hV6,q10,r6_10⟩:=h
  have hS6:(z6w0+18446744073709551616*z6w1+340282366920938463463374607431768211456*z6w2+2^192*z6w3+2^256*z6w4+2^320*z6w5)=1*p00+18446744073709551616*p01+340282366920938463463374607431768211456*p02+18446744073709551616*p10+340282366920938463463374607431768211456*p11+2^192*p12:=by omega
  refine Qaz <| hK44 _ _ <| sgA kj ?_
  show zal _ _ _ 1 _ _
  show zak _ _ (Exit.then (zal _ _ _ 0) _) _ _
  refine sgB kj <| wp_seq_k fun K47 hK47=>cond_false kj <| wp_exit <| hK31 _ _ <| sgA kj ?_
  show zal _ _ _ 2 _ _
  show zak _ _ (Exit.then (zal _ _ _ 1) _) _ _
  refine sgB kj <| sgT kj <| wp_seq_k fun K50 hK50=>wp_block <| sgC fun K51 hK51=>sg 1 kj <| Qac (.int .u64 m2_) 19 rfl kj (QaB 212 _ _ .i64 .u64 ([m0_,m1_,m2_]) 2 3 115 m2_ rfl kj kj kj kj kj rfl (by decide) rfl) <| sg 2 kj <| sgN hK51 <| sgC fun K52 hK52=>?_
  refine Qac (.agg (ints .u64 ([n0_,n1_,n2_]))) 20 rfl kj (Qae 212 _ g3 212 _ _ (zbb q10 (zbb q9 (zbb q8 r3_7 (Qad r3_3 l6)) (Qad r3_3 l6)) (Qad r3_3 l6)) rfl kj kj (isz (n:=3) kj kj)) <| sg 1 kj <| sgN hK52 <| wp_block <| wp_loop_rounds 4 ?_
  show zak _ _ (Exit.then (zal _ _ _ 3) _) _ _
  refine sgB kj <| sgT kj <| wp_seq_k fun K55 hK55=>wp_block <| sgC fun K56 hK56=>sg 1 kj <| Qac (.int .u64 n0_) 24 rfl kj (QaB 212 _ _ .i64 .u64 ([n0_,n1_,n2_]) 0 3 115 n0_ rfl kj kj kj kj kj rfl (by decide) rfl) <| sg 2 kj <| sgN hK56 <| Qao ?_
  refine sg 6 kj <| Qaw (fun v W'=>v=.tuple #[]∧∃ r0 r1 r2 r3 r4 r5:Int,isW r0∧isW r1∧isW r2∧isW r3∧isW r4∧isW r5∧(r0+18446744073709551616*r1+340282366920938463463374607431768211456*r2+2^192*r3+2^256*r4+2^320*r5)=(z6w0+18446744073709551616*z6w1+340282366920938463463374607431768211456*z6w2+2^192*z6w3+2^256*z6w4+2^320*z6w5)+340282366920938463463374607431768211456*p20∧ExtB g6 W10 W'∧W'.heap[g6]? = some (.cells (ints .u64 [r0,r1,r2,r3,r4,r5]) 221)) 150 #[.int .i64 2,.int .u64 m2_,.int .u64 n0_,.pointer (some ⟨g6,0,none⟩)] 31 rfl kj kj ((QlX g6 z6w0 z6w1 z6w2 z6w3 z6w4 z6w5 m2_ n0_ p20 hz6w0 hz6w1 hz6w2 hz6w3 hz6w4 hz6w5 hm2_ hn0_ ep20.symm (by rw [hS6]; omega) _ r6_10).mono fun e w' h=>⟨_,h.1,rfl,h.2⟩) fun v W11 h=>?_
  obtain ⟨rfl,z7w0,z7w1,z7w2,z7w3,z7w4,z7w5,hz7w0,hz7w1,hz7w2,hz7w3,hz7w4,hz7w5,hV7,q11,r6_11⟩:=h
  have hS7:(z7w0+18446744073709551616*z7w1+340282366920938463463374607431768211456*z7w2+2^192*z7w3+2^256*z7w4+2^320*z7w5)=1*p00+18446744073709551616*p01+340282366920938463463374607431768211456*p02+18446744073709551616*p10+340282366920938463463374607431768211456*p11+2^192*p12+340282366920938463463374607431768211456*p20:=by omega
  refine Qaz <| hK55 _ _ <| sgA kj ?_
  show zal _ _ _ 3 _ _
  show zak _ _ (Exit.then (zal _ _ _ 2) _) _ _
  refine sgB kj <| sgT kj <| wp_seq_k fun K59 hK59=>wp_block <| sgC fun K60 hK60=>sg 1 kj <| Qac (.int .u64 n1_) 24 rfl kj (QaB 212 _ _ .i64 .u64 ([n0_,n1_,n2_]) 1 3 115 n1_ rfl kj kj kj kj kj rfl (by decide) rfl) <| sg 2 kj <| sgN hK60 <| Qao ?_
  refine sg 6 kj <| Qaw (fun v W'=>v=.tuple #[]∧∃ r0 r1 r2 r3 r4 r5:Int,isW r0∧isW r1∧isW r2∧isW r3∧isW r4∧isW r5∧(r0+18446744073709551616*r1+340282366920938463463374607431768211456*r2+2^192*r3+2^256*r4+2^320*r5)=(z7w0+18446744073709551616*z7w1+340282366920938463463374607431768211456*z7w2+2^192*z7w3+2^256*z7w4+2^320*z7w5)+2^192*p21∧ExtB g6 W11 W'∧W'.heap[g6]? = some (.cells (ints .u64 [r0,r1,r2,r3,r4,r5]) 221)) 150 #[.int .i64 3,.int .u64 m2_,.int .u64 n1_,.pointer (some ⟨g6,0,none⟩)] 31 rfl kj kj ((Qot g6 z7w0 z7w1 z7w2 z7w3 z7w4 z7w5 m2_ n1_ p21 hz7w0 hz7w1 hz7w2 hz7w3 hz7w4 hz7w5 hm2_ hn1_ ep21.symm (by rw [hS7]; omega) _ r6_11).mono fun e w' h=>⟨_,h.1,rfl,h.2⟩) fun v W12 h=>?_
  obtain ⟨rfl,z8w0,z8w1,z8w2,z8w3,z8w4,z8w5,hz8w0,hz8w1,hz8w2,hz8w3,hz8w4,hz8w5,hV8,q12,r6_12⟩:=h
  have hS8:(z8w0+18446744073709551616*z8w1+340282366920938463463374607431768211456*z8w2+2^192*z8w3+2^256*z8w4+2^320*z8w5)=1*p00+18446744073709551616*p01+340282366920938463463374607431768211456*p02+18446744073709551616*p10+340282366920938463463374607431768211456*p11+2^192*p12+340282366920938463463374607431768211456*p20+2^192*p21:=by omega
  refine Qaz <| hK59 _ _ <| sgA kj ?_
  show zal _ _ _ 2 _ _
  show zak _ _ (Exit.then (zal _ _ _ 1) _) _ _
  refine sgB kj <| sgT kj <| wp_seq_k fun K63 hK63=>wp_block <| sgC fun K64 hK64=>sg 1 kj <| Qac (.int .u64 n2_) 24 rfl kj (QaB 212 _ _ .i64 .u64 ([n0_,n1_,n2_]) 2 3 115 n2_ rfl kj kj kj kj kj rfl (by decide) rfl) <| sg 2 kj <| sgN hK64 <| Qao ?_
  refine sg 6 kj <| Qaw (fun v W'=>v=.tuple #[]∧∃ r0 r1 r2 r3 r4 r5:Int,isW r0∧isW r1∧isW r2∧isW r3∧isW r4∧isW r5∧(r0+18446744073709551616*r1+340282366920938463463374607431768211456*r2+2^192*r3+2^256*r4+2^320*r5)=(z8w0+18446744073709551616*z8w1+340282366920938463463374607431768211456*z8w2+2^192*z8w3+2^256*z8w4+2^320*z8w5)+2^256*p22∧ExtB g6 W12 W'∧W'.heap[g6]? = some (.cells (ints .u64 [r0,r1,r2,r3,r4,r5]) 221)) 150 #[.int .i64 4,.int .u64 m2_,.int .u64 n2_,.pointer (some ⟨g6,0,none⟩)] 31 rfl kj kj ((Qqs g6 z8w0 z8w1 z8w2 z8w3 z8w4 z8w5 m2_ n2_ p22 hz8w0 hz8w1 hz8w2 hz8w3 hz8w4 hz8w5 hm2_ hn2_ ep22.symm (by rw [hS8]; omega) _ r6_12).mono fun e w' h=>⟨_,h.1,rfl,h.2⟩) fun v W13 h=>?_
  obtain ⟨rfl,z9w0,z9w1,z9w2,z9w3,z9w4,z9w5,hz9w0,hz9w1,hz9w2,hz9w3,hz9w4,hz9w5,hV9,q13,r6_13⟩:=h
  have x13:=zbc (zbc (zbc (zbc (zbc (zbc (zbc (zbc (zbc (zaX x3 e4) q5 b6) q6 b6) q7 b6) q8 b6) q9 b6) q10 b6) q11 b6) q12 b6) q13 b6
  have hS9:(z9w0+18446744073709551616*z9w1+340282366920938463463374607431768211456*z9w2+2^192*z9w3+2^256*z9w4+2^320*z9w5)=1*p00+18446744073709551616*p01+340282366920938463463374607431768211456*p02+18446744073709551616*p10+340282366920938463463374607431768211456*p11+2^192*p12+340282366920938463463374607431768211456*p20+2^192*p21+2^256*p22:=by omega
  refine Qaz <| hK63 _ _ <| sgA kj ?_
  show zal _ _ _ 1 _ _
  show zak _ _ (Exit.then (zal _ _ _ 0) _) _ _
  refine sgB kj <| wp_seq_k fun K66 hK66=>cond_false kj <| wp_exit <| hK50 _ _ <| sgA kj ?_
  show zal _ _ _ 1 _ _
  show zak _ _ (Exit.then (zal _ _ _ 0) _) _ _
  refine sgB kj <| wp_seq_k fun K68 hK68=>cond_false kj <| wp_exit <| hK8 _ _ <| sgC fun K69 hK69=>?_
  obtain ⟨e0_,ee0⟩:∃ z,z=z9w2/4+z9w3%4*4611686018427387904:=⟨_,rfl⟩
  obtain ⟨e1_,ee1⟩:∃ z,z=z9w3/4:=⟨_,rfl⟩
  have he0:isW e0_:=by obtain ⟨a1,a2⟩:=id hz9w2; obtain ⟨a3,a4⟩:=id hz9w3; exact ⟨by omega,by omega⟩
  have he1:isW e1_:=by obtain ⟨a3,a4⟩:=id hz9w3; exact ⟨by omega,by omega⟩
  refine sg 1 kj <| Qac (.int .u64 z9w2) 35 rfl kj (Qaj 115 _ g6 2 221 _ (.int .u64 z9w2) _ r6_13 rfl kj kj kj) <| Qac (.int .u64 (z9w2/4)) 36 rfl kj (Qbu .shr _ _ _ _ .u64 .u64 _ _ _ rfl kj kj (QdS _ _ _ _ _ _ (by decide) (shr2 _ hz9w2))) <| sg 1 kj <| Qac (.int .u64 z9w3) 38 rfl kj (Qaj 115 _ g6 3 221 _ (.int .u64 z9w3) _ r6_13 rfl kj kj kj) <| Qac (.int .u64 (z9w3%4*4611686018427387904)) 39 rfl kj (Qbu .shl _ _ _ _ .u64 .u64 _ _ _ rfl kj kj (QgC _ _ _ _ _ _ (by decide) (QqZ _ hz9w3))) <| Qac (.int .u64 (e0_)) 40 rfl kj (Qam (u:=.int .u64 (bits .or .u64 ((z9w2/4)) ((z9w3%4*4611686018427387904)))) kj (congrArg (zav .u64) ((or62 _ _ hz9w2 hz9w3).trans ee0.symm))) <| sg 1 kj <| Qac (.int .u64 z9w3) 42 rfl kj (Qaj 115 _ g6 3 221 _ (.int .u64 z9w3) _ r6_13 rfl kj kj kj) <| Qac (.int .u64 (e1_)) 43 rfl kj (Qbu .shr _ _ _ _ .u64 .u64 _ _ _ rfl kj kj (QdS _ _ _ _ _ _ (by decide) ((shr2 _ hz9w3).trans ee1.symm))) ?_
  refine sg 1 kj <| Qak (ints .u64 ([0,0])) 223 11 rfl kj kj fun g70 W14 l70 e14 r70_14=>Qai g70 _ (ints .u64 ([(e0_),(e1_)])) 223 r70_14 rfl kj (Qag 223 _ _ g70 223 _ _ r70_14 rfl kj kj (isz (n:=2) kj kj) (eqsz (n:=2) kj kj) (ints_one _ _)) fun W15 p15 r70_15=>sgN hK69 <| sgC fun K71 hK71=>sg 1 kj ?_
  have r6_15:=(rpn p15 r6_13 e14 l70)
  refine Qac (.int .u64 z9w0) 46 rfl kj (Qaj 115 _ g6 0 221 _ (.int .u64 z9w0) _ r6_15 rfl kj kj kj) <| sg 1 kj <| Qac (.int .u64 z9w1) 48 rfl kj (Qaj 115 _ g6 1 221 _ (.int .u64 z9w1) _ r6_15 rfl kj kj kj) <| sg 1 kj <| Qac (.int .u64 z9w2) 50 rfl kj (Qaj 115 _ g6 2 221 _ (.int .u64 z9w2) _ r6_15 rfl kj kj kj) <| Qac (.int .u64 (z9w2%4)) 51 rfl kj (Qam (u:=.int .u64 (bits .and .u64 (z9w2) (3))) kj (congrArg (zav .u64) (and3 _ hz9w2))) <| sg 1 kj <| Qai g6 _ (ints .u64 ([z9w0,z9w1,(z9w2%4),0,0,0])) 221 r6_15 rfl kj (Qag 221 _ _ g6 221 _ _ r6_15 rfl kj kj (isz (n:=6) kj kj) (eqsz (n:=6) kj kj) (ints_one _ _)) fun W16 p16 r6_16=>?_
  obtain ⟨aq0,bq0⟩:=id hz9w0
  obtain ⟨aq1,bq1⟩:=id hz9w1
  obtain ⟨aq2,bq2⟩:=id hz9w2
  obtain ⟨aq3,bq3⟩:=id hz9w3
  obtain ⟨aq4,bq4⟩:=id hz9w4
  obtain ⟨aq5,bq5⟩:=id hz9w5
  obtain ⟨ae0,be0⟩:=id he0
  obtain ⟨ae1,be1⟩:=id he1
  refine sgN hK71 <| wp_seq_k fun K72 hK72=>sgC fun K73 hK73=>Qac (.agg (ints .u64 ([(e0_),(e1_)]))) 53 rfl kj (Qae 223 _ g70 223 _ _ (zaV p16 r70_15 (Qap r6_13 l70)) rfl kj kj (isz (n:=2) kj kj)) <| sg 1 kj <| sgN hK73 <| wp_block <| wp_loop_rounds 3 ?_
  show zak _ _ (Exit.then (zal _ _ _ 2) _) _ _
  refine sgB kj <| sgT kj <| wp_seq_k fun K76 hK76=>wp_block <| sgC fun K77 hK77=>sg 1 kj <| Qac (.int .u64 (e0_)) 57 rfl kj (QaB 223 _ _ .i64 .u64 ([(e0_),(e1_)]) 0 2 115 (e0_) rfl kj kj kj kj kj rfl (by decide) rfl) <| sg 2 kj <| sgN hK77 <| Qao ?_
  refine sg 3 kj <| Qaw (fun v W'=>v=.tuple #[]∧∃ r0 r1 r2 r3 r4 r5:Int,isW r0∧isW r1∧isW r2∧isW r3∧isW r4∧isW r5∧(r0+18446744073709551616*r1+340282366920938463463374607431768211456*r2+2^192*r3+2^256*r4+2^320*r5)=(z9w0+18446744073709551616*z9w1+340282366920938463463374607431768211456*(z9w2%4)+2^192*0+2^256*0+2^320*0)+1*(5*e0_)∧ExtB g6 W16 W'∧W'.heap[g6]? = some (.cells (ints .u64 [r0,r1,r2,r3,r4,r5]) 221)) 150 #[.int .i64 0,.int .u64 (e0_),.int .u64 5,.pointer (some ⟨g6,0,none⟩)] 61 rfl kj kj ((Qou g6 z9w0 z9w1 (z9w2%4) 0 0 0 e0_ 5 (5*e0_) hz9w0 hz9w1 ⟨by omega,by omega⟩ zero_isW zero_isW zero_isW he0 ⟨by decide,by decide⟩ (by omega) (by omega) _ r6_16).mono fun e w' h=>⟨_,h.1,rfl,h.2⟩) fun v W17 h=>?_
  obtain ⟨rfl,z10w0,z10w1,z10w2,z10w3,z10w4,z10w5,hz10w0,hz10w1,hz10w2,hz10w3,hz10w4,hz10w5,hV10,q17,r6_17⟩:=h
  have hS10:(z10w0+18446744073709551616*z10w1+340282366920938463463374607431768211456*z10w2+2^192*z10w3+2^256*z10w4+2^320*z10w5)=(z9w0+18446744073709551616*z9w1+340282366920938463463374607431768211456*(z9w2%4))+1*(5*e0_):=by omega
  refine Qaz <| hK76 _ _ <| sgA kj ?_
  show zal _ _ _ 2 _ _
  show zak _ _ (Exit.then (zal _ _ _ 1) _) _ _
  refine sgB kj <| sgT kj <| wp_seq_k fun K80 hK80=>wp_block <| sgC fun K81 hK81=>sg 1 kj <| Qac (.int .u64 (e1_)) 57 rfl kj (QaB 223 _ _ .i64 .u64 ([(e0_),(e1_)]) 1 2 115 (e1_) rfl kj kj kj kj kj rfl (by decide) rfl) <| sg 2 kj <| sgN hK81 <| Qao ?_
  refine sg 3 kj <| Qaw (fun v W'=>v=.tuple #[]∧∃ r0 r1 r2 r3 r4 r5:Int,isW r0∧isW r1∧isW r2∧isW r3∧isW r4∧isW r5∧(r0+18446744073709551616*r1+340282366920938463463374607431768211456*r2+2^192*r3+2^256*r4+2^320*r5)=(z10w0+18446744073709551616*z10w1+340282366920938463463374607431768211456*z10w2+2^192*z10w3+2^256*z10w4+2^320*z10w5)+18446744073709551616*(5*e1_)∧ExtB g6 W17 W'∧W'.heap[g6]? = some (.cells (ints .u64 [r0,r1,r2,r3,r4,r5]) 221)) 150 #[.int .i64 1,.int .u64 (e1_),.int .u64 5,.pointer (some ⟨g6,0,none⟩)] 61 rfl kj kj ((QlY g6 z10w0 z10w1 z10w2 z10w3 z10w4 z10w5 e1_ 5 (5*e1_) hz10w0 hz10w1 hz10w2 hz10w3 hz10w4 hz10w5 he1 ⟨by decide,by decide⟩ (by omega) (by rw [hS10]; omega) _ r6_17).mono fun e w' h=>⟨_,h.1,rfl,h.2⟩) fun v W18 h=>?_
  obtain ⟨rfl,z11w0,z11w1,z11w2,z11w3,z11w4,z11w5,hz11w0,hz11w1,hz11w2,hz11w3,hz11w4,hz11w5,hV11,q18,r6_18⟩:=h
  have hS11:(z11w0+18446744073709551616*z11w1+340282366920938463463374607431768211456*z11w2+2^192*z11w3+2^256*z11w4+2^320*z11w5)=(z9w0+18446744073709551616*z9w1+340282366920938463463374607431768211456*(z9w2%4))+1*(5*e0_)+18446744073709551616*(5*e1_):=by omega
  refine Qaz <| hK80 _ _ <| sgA kj ?_
  show zal _ _ _ 1 _ _
  show zak _ _ (Exit.then (zal _ _ _ 0) _) _ _
  refine sgB kj <| wp_seq_k fun K83 hK83=>cond_false kj <| wp_exit <| hK72 _ _ <| sgC fun K84 hK84=>sg 1 kj <| Qac (.int .u64 z11w0) 64 rfl kj (Qaj 115 _ g6 0 221 _ (.int .u64 z11w0) _ r6_18 rfl kj kj kj) <| sg 1 kj <| Qac (.int .u64 z11w1) 66 rfl kj (Qaj 115 _ g6 1 221 _ (.int .u64 z11w1) _ r6_18 rfl kj kj kj) ?_
  refine sg 1 kj <| Qac (.int .u64 z11w2) 68 rfl kj (Qaj 115 _ g6 2 221 _ (.int .u64 z11w2) _ r6_18 rfl kj kj kj) <| sg 1 kj ?_
  have r4_13:=(zbb q13 (zbb q12 (zbb q11 (zbb q10 (zbb q9 (zbb q8 (zbb q7 (zbb q6 (zbb q5 (Qaa r4_3 e4) (Qad r4_3 l6)) (Qad r4_3 l6)) (Qad r4_3 l6)) (Qad r4_3 l6)) (Qad r4_3 l6)) (Qad r4_3 l6)) (Qad r4_3 l6)) (Qad r4_3 l6)) (Qad r4_3 l6))
  have r4_18:=(zbb q18 (zbb q17 (zaV p16 (rpn p15 r4_13 e14 l70) (Qad r4_3 l6)) (Qad r4_3 l6)) (Qad r4_3 l6))
  refine Qai g4 _ (ints .u64 ([z11w0,z11w1,z11w2])) 212 r4_18 rfl kj (Qag 212 _ _ g4 212 _ _ r4_18 rfl kj kj (isz (n:=3) kj kj) (eqsz (n:=3) kj kj) (ints_one _ _)) fun W19 p19 r4_19=>sgN hK84 <| wp_ret ?_
  repeat (first | with_reducible refine goR1 ?_ | with_reducible refine goR2 ?_)
  exact (show bodyPost _ _ _ .ret _ _ from ret1 (.agg (ints .u64 ([z11w0,z11w1,z11w2]))) rfl (QaU g4 212 _ r4_19 kj kj (isz (n:=3) kj kj)) ⟨by rw [Qor (v:=mulV (va*vb)) hz11w0 hz11w1 hz11w2 (Qpm hz9w0 hz9w1 hz9w2 hz9w3 hz9w4 hz9w5 hz11w0 hz11w1 hz11w2 hz11w3 hz11w4 hz11w5 (hS9.trans hT) (by rw [←hT]; exact hTl) ee0 ee1 (by rw [hS11]; omega))],(zaW p19 (zbc (zbc (zaW p16 (zaW p15 (zaX x13 e14) (qT x13.size l70)) b6) q17 b6) q18 b6) (qT x2.size l4))⟩)
theorem QlT (a b:Int) (ha:0≤a) (hb:0≤b) (hal:a<5444517870735015415413993718908291383296) (hbl:b<21267647932558653966460912964485513216) (w:World) :
    Calls Tryz.prog 149 #[.agg (ints .u64 (nw3 a)),.agg (ints .u64 (nw3 b))] w (Ret w (.agg (ints .u64 (nw3 (mulV (a*b)))))) :=
  mulW _ _ _ _ _ _ a b (Qdg _) (Qdg _) (Qdg _) (Qdg _) (Qdg _) (Qdg _) (Qh1 a ha (by omega)) (Qh1 b hb (by omega)) hal hbl w
end Ae
end
section
namespace Ae
open Go Go.RowKit
open Rely Auto Own Sha
set_option exponentiation.threshold 500
open Sha Cha
theorem run_storeQ {P : Program} {ρ:Operand→Value} {o:Oper} {w:World} (ty:TypeId) (x y:Operand) (g off:Nat) (t:TypeId) (pre post:List (Array Value)) (u v:Value) (hg:w.heap[g]? = some (.cells (cat (pre++([#[u]]++post))) t))
    (ho:o.op=.store ty x y) (hx:ρ x=.pointer (some ⟨g,off,none⟩)) (hy:ρ y=v) (hi:(P.info? ty).map (·.size)=some 1) (hp:(cat pre).size=off) (h1:v.oneCell'=true) (hcs:v.cells=#[v]) :
    (execOp ρ o).run P w=.ok .skip (w.setRow g (cat (pre++([#[v]]++post)))):=by
  subst hp
  have hs:Nat.blt (cat pre).size (cat (pre++([#[u]]++post))).size=true:=by
    have:(cat pre).size<(cat (pre++([#[u]]++post))).size:=by
      rw [Qa5,Qa5,qS,qS]
      have e1:(cat [#[u]]).size=1:=rfl
      omega
    simpa using this
  have e:(cat (pre++([#[u]]++post))).setIfInBounds (cat pre).size v=cat (pre++([#[v]]++post)):=by
    rw [Qa5,Qa5,Qa5,Qa5]
    have e1:∀ z,cat [#[z]]=#[z]:=fun z=>rfl
    rw [e1,e1,za3 (qR _),Nat.sub_self,za4 (by simp)]
    rfl
  rw [←e]
  exact QbU ty x y g _ t _ v hg ho hx hy hi hs h1 hcs
theorem QoP {k : IntKind} {T:TypeId} {g n0 n l h:Nat} {xs:List Int} (pre post:List (Array Value)) {W:World} (hp:(cat pre).size=n0) (hn:xs.length=n) (r:W.heap[g]? = some (.cells (cat (pre++([ints k xs]++post))) T)) (h1:l≤h) (h2:h≤n) (h3:n≤maxLen) :
    RdK k W.heap.size ((xs.drop l).take (h-l)) (.slice (some ⟨g,n0+l,none⟩) (h-l) (n-l)) W :=
  QdZ (n0+l) (by rw [zaq,za5]; omega) r (fun i hi=>by
    rw [Qh2 _ _ _ hi,QjS]
    exact QdF pre post xs n0 (l+i) _ hp (by omega) (by omega)) (Qa7 r) (by omega) (by omega)
theorem QjW (v : Int):mulV v%PP=v%PP:=by
  unfold mulV PP
  omega
theorem Qpn (v : Int) (h0:0≤v) (h:v<2^256):0≤mulV v∧mulV v<2041694201525630780780247644590609268736:=by
  unfold mulV
  omega
theorem Qi1 {c : List Int} (hb:Qaf c) (hl:c.length≤16):0≤lev (c++[1])∧lev (c++[1])≤680564733841876926926749214863536422912:=by
  have h1:=Qi2 hb
  have h0:=QdO hb
  rw [Qh8]
  have h2:p256 16=p256 c.length*p256 (16-c.length):=by rw [←Qe8]; congr 1; omega
  have h3:=Qed (16-c.length)
  have h4:p256 c.length*1≤p256 c.length*p256 (16-c.length):=za2 (by omega) (Int.le_of_lt (Qed _))
  have h5:=Qed c.length
  rw [p16] at h2
  omega
theorem QmX (pl : List Int) (m:Nat) (h:m<pl.length):((pl.set m 1).drop 0).take (m+1-0)=pl.take m++[1]:=by
  show (pl.set m 1).take (m+1)=_
  rw [Qgj _ m (by rw [za6]; exact h)]
  congr 1
  · rw [List.take_set_of_le (qR _)]
  · simp [nth,h]
def Qgi (r S:Int) (c:List Int):Int:=mulV ((S+lev (c++[1]))*r)
theorem QjB {r S:Int} {c:List Int} (hS:0≤S∧S<2041694201525630780780247644590609268736) (hr:0≤r∧r<21267647932558653966460912964485513216) (hb:Qaf c) (hl:c.length≤16):0≤Qgi r S c∧Qgi r S c<2041694201525630780780247644590609268736:=by
  obtain ⟨h0,h1⟩:=Qi1 hb hl
  exact Qpn _ (zai (by omega) hr.1) (Qiu (by omega) hr.1 (by omega) hr.2)
set_option maxRecDepth 100000 in
theorem QpU (g : Nat) (r s S:Int) (pl:List Int) (m:Nat) (w:World) (hr:0≤r∧r<21267647932558653966460912964485513216) (hS:0≤S∧S<2041694201525630780780247644590609268736) (hpl:pl.length=17) (hpb:Qaf pl) (hm:m≤16) (hg:w.heap[g]? = some (.cells (cat [ints .u64 (nw3 r),ints .u64 (nw3 s),ints .u64 (nw3 (S)),ints .u8 (pl),#[.int .i64 ((m:Nat):Int)]]) 217)) :
    Calls Tryz.prog 146 #[.pointer (some ⟨g,0,none⟩)] w (fun e W=>e=.returned (.tuple #[])∧ExtB g w W∧W.heap[g]? = some (.cells (cat [ints .u64 (nw3 r),ints .u64 (nw3 s),ints .u64 (nw3 (Qgi r S (pl.take m))),ints .u8 (pl.set m 1),#[.int .i64 0]]) 217)):=by
  have hpl1:(pl.set m 1).length=17:=by rw [za6,hpl]
  have hpb1:Qaf (pl.set m 1):=Qcp hpb _ (by decide) (by decide)
  have hset:=QmX pl m (by omega)
  obtain ⟨hc0,hc1⟩:0≤lev (((pl.set m 1).drop 0).take (m+1-0))∧lev (((pl.set m 1).drop 0).take (m+1-0))≤680564733841876926926749214863536422912:=by rw [hset]; exact Qi1 (Qbq hpb m) (by rw [zaq]; omega)
  refine enter 36 [(0,.pointer (some ⟨g,0,none⟩))] Tryz.func146 rfl rfl kj rfl <| wp_seq_k fun K2 hK2=>QaQ 8 [⟨none,[(0,none)]⟩,⟨none,[(0,none)]⟩,⟨none,[(3,some 1)]⟩,⟨none,[(4,some 2)]⟩,⟨none,[(5,some 3)]⟩,⟨none,[(2,some 0)]⟩,⟨none,[(7,some 5)]⟩,⟨none,[(8,some 6),(6,some 4)]⟩] kj kj fun F hF=>Qal (.pointer (some ⟨g,0,none⟩)) kj kj (fun _=>kj) <| Qal (.pointer (some ⟨g,0,none⟩)) kj kj (fun _=>kj) <| Qal (.pointer (some ⟨g,0,none⟩)) kj kj (fun _=>kj) <| Qal (.pointer (some ⟨g,26,none⟩)) kj kj (fun _=>kj) <| Qax (.int .i64 ((m:Nat):Int)) kj kj (fun W hR=>(Qaj 3 _ g 26 217 _ (.int .i64 ((m:Nat):Int)) _ (Qaa (Qaa hg (Qah _)) hR) rfl kj (Qaq [ints .u64 (nw3 r),ints .u64 (nw3 s),ints .u64 (nw3 (S)),ints .u8 (pl)] [#[.int .i64 ((m:Nat):Int)]] [] 26 (by rw [Qab,Qab,Qab,Qab]; simp only [qS,cat,(izT (Qa3 _)),(izT hpl)]; rfl) 0 _ rfl) kj)) ?_
  refine Qal (.pointer (some ⟨g,0,none⟩)) kj kj (fun _=>kj) <| Qal (.pointer (some ⟨g,9,none⟩)) kj kj (fun _=>kj) <| Qal (.pointer (some ⟨g,9+m*1,none⟩)) kj kj (fun W=>(QcI 215 _ _ .i64 m g 9 17 5 1 rfl kj kj kj kj (show m<17 by omega))) <| QaH (hF _ kj fun W1 e1=>?_)
  simp only [ups,up,Kn.val,zax,zao,zay,zaz,zam,zan]
  clear hF
  have r1_1:=(Qaa hg e1)
  refine Qai g _ (cat [ints .u64 (nw3 r),ints .u64 (nw3 s),ints .u64 (nw3 (S)),ints .u8 ((pl).set m 1),#[.int .i64 ((m:Nat):Int)]]) 217 r1_1 rfl kj (Qfs 5 _ _ g (9+m*1) 217 [ints .u64 (nw3 r),ints .u64 (nw3 s),ints .u64 (nw3 (S))] [#[.int .i64 ((m:Nat):Int)]] pl 9 m _ r1_1 rfl kj kj kj (by rw [Qab,Qab,Qab]; simp only [qS,cat,(izT (Qa3 _))]; rfl) (by omega) (zas (show m<17 by omega) hpl.symm)) fun W2 p2 r1_2=>?_
  refine sgN hK2 <| wp_seq_k fun K3 hK3=>QaQ 23 [⟨none,[(0,none)]⟩,⟨none,[(0,none)]⟩,⟨none,[(11,some 1)]⟩,⟨none,[(12,some 2)]⟩,⟨none,[(13,some 3)]⟩,⟨none,[(0,none)]⟩,⟨none,[(15,some 5)]⟩,⟨none,[(16,some 6)]⟩,⟨none,[(0,none)]⟩,⟨none,[(18,some 8)]⟩,⟨none,[(19,some 9)]⟩,⟨none,[(20,some 10)]⟩,⟨none,[(21,some 11)]⟩,⟨none,[(17,some 7),(22,some 12)]⟩,⟨none,[(23,some 13)]⟩,⟨none,[(14,some 4),(24,some 14)]⟩,⟨none,[(0,none)]⟩,⟨none,[(26,some 16)]⟩,⟨none,[(27,some 17)]⟩,⟨none,[(28,some 18)]⟩,⟨none,[(25,some 15),(29,some 19)]⟩,⟨none,[(10,some 0)]⟩,⟨none,[(31,some 21)]⟩] kj kj fun F hF=>Qal (.pointer (some ⟨g,0,none⟩)) kj kj (fun _=>kj) <| Qal (.pointer (some ⟨g,0,none⟩)) kj kj (fun _=>kj) <| Qal (.pointer (some ⟨g,0,none⟩)) kj kj (fun _=>kj) <| Qal (.pointer (some ⟨g,6,none⟩)) kj kj (fun _=>kj) <| Qax (.agg (ints .u64 (nw3 (S)))) kj kj (fun W hR=>(Qan 212 _ g 6 217 _ _ _ (Qaa (Qaa r1_2 (Qah _)) hR) rfl kj (Qaq [ints .u64 (nw3 r),ints .u64 (nw3 s)] [ints .u64 (nw3 (S))] [ints .u8 ((pl).set m 1),#[.int .i64 ((m:Nat):Int)]] 6 (by rw [Qab,Qab]; simp only [qS,cat,(izT (Qa3 _))]; rfl)) kj (isz (n:=3) kj (izT (Qa3 _))))) ?_
  refine Qal (.pointer (some ⟨g,0,none⟩)) kj kj (fun _=>kj) <| Qal (.pointer (some ⟨g,0,none⟩)) kj kj (fun _=>kj) <| Qal (.pointer (some ⟨g,9,none⟩)) kj kj (fun _=>kj) <| Qal (.pointer (some ⟨g,0,none⟩)) kj kj (fun _=>kj) <| Qal (.pointer (some ⟨g,0,none⟩)) kj kj (fun _=>kj) <| Qal (.pointer (some ⟨g,26,none⟩)) kj kj (fun _=>kj) <| Qax (.int .i64 ((m:Nat):Int)) kj kj (fun W hR=>(Qaj 3 _ g 26 217 _ (.int .i64 ((m:Nat):Int)) _ (Qaa (Qaa r1_2 (Qah _)) hR) rfl kj (Qaq [ints .u64 (nw3 r),ints .u64 (nw3 s),ints .u64 (nw3 (S)),ints .u8 ((pl).set m 1)] [#[.int .i64 ((m:Nat):Int)]] [] 26 (by rw [Qab,Qab,Qab,Qab]; simp only [qS,cat,(izT ((za6 ..).trans hpl)),(izT (Qa3 _))]; rfl) 0 _ rfl) kj)) ?_
  refine Qal (.int .i64 (((m+1:Nat):Int))) kj kj (fun W=>(Qam (u:=.int .i64 (zat.wrap (((m:Nat):Int)+1))) kj (congrArg (zav .i64) (IntWalk.i64_in _ (by omega))))) <| Qal (.slice (some ⟨g,9+0,none⟩) ((m+1)-0) (17-0)) kj kj (fun W=>(Qct 215 _ _ _ 0 (m+1) 17 g 9 5 rfl kj kj kj rfl ⟨.i64,by kernel_rfl⟩ (by omega) (by omega) (by omega))) <| QaI (.agg (ints .u64 (nw3 (lev (((pl.set m 1).drop 0).take (m+1-0)))))) 145 #[.slice (some ⟨g,9+0,none⟩) ((m+1)-0) (17-0)] kj kj (fun _=>kj) (fun W hR=>(Qln (((pl.set m 1).drop 0).take (m+1-0)) _ _ W (QoP (n0:=9) (l:=0) (h:=m+1) [ints .u64 (nw3 r),ints .u64 (nw3 s),ints .u64 (nw3 (S))] [#[.int .i64 ((m:Nat):Int)]] kj hpl1 (Qaa (Qaa r1_2 (Qah _)) hR) (by omega) (by omega) (by decide)) (by rw [zaq]; omega) (Qbq (Qcb hpb1 0) _))) ?_
  refine QaI (.agg (ints .u64 (nw3 (S+lev (((pl.set m 1).drop 0).take (m+1-0)))))) 147 #[.agg (ints .u64 (nw3 (S))),.agg (ints .u64 (nw3 (lev (((pl.set m 1).drop 0).take (m+1-0)))))] kj kj (fun _=>kj) (fun W hR=>(Qje S (lev (((pl.set m 1).drop 0).take (m+1-0))) hS.1 hc0 (by omega) (by omega) (by omega)) W) <| Qal (.pointer (some ⟨g,0,none⟩)) kj kj (fun _=>kj) <| Qal (.pointer (some ⟨g,0,none⟩)) kj kj (fun _=>kj) <| Qal (.pointer (some ⟨g,0,none⟩)) kj kj (fun _=>kj) <| Qax (.agg (ints .u64 (nw3 r))) kj kj (fun W hR=>(Qan 212 _ g 0 217 _ _ _ (Qaa (Qaa r1_2 (Qah _)) hR) rfl kj (Qaq [] [ints .u64 (nw3 r)] [ints .u64 (nw3 s),ints .u64 (nw3 (S)),ints .u8 ((pl).set m 1),#[.int .i64 ((m:Nat):Int)]] 0 kj) kj (isz (n:=3) kj (izT (Qa3 _))))) <| QaI (.agg (ints .u64 (nw3 (mulV ((S+lev (((pl.set m 1).drop 0).take (m+1-0)))*r))))) 149 #[.agg (ints .u64 (nw3 (S+lev (((pl.set m 1).drop 0).take (m+1-0))))),.agg (ints .u64 (nw3 r))] kj kj (fun _=>kj) (fun W hR=>(QlT (S+lev (((pl.set m 1).drop 0).take (m+1-0))) r (by omega) hr.1 (by omega) hr.2) W) <| Qal (.pointer (some ⟨g,0,none⟩)) kj kj (fun _=>kj) <| Qal (.pointer (some ⟨g,6,none⟩)) kj kj (fun _=>kj) <| QaH (hF _ kj fun W3 e3=>?_)
  simp only [ups,up,Kn.val,zax,zao,zay,zaz,zam,zan]
  clear hF
  have r1_3:=(Qaa r1_2 e3)
  refine Qai g _ (cat [ints .u64 (nw3 r),ints .u64 (nw3 s),ints .u64 (nw3 (mulV ((S+lev (((pl.set m 1).drop 0).take (m+1-0)))*r))),ints .u8 ((pl).set m 1),#[.int .i64 ((m:Nat):Int)]]) 217 r1_3 rfl kj (Qbm 212 _ _ g 6 217 [ints .u64 (nw3 r),ints .u64 (nw3 s)] [ints .u64 (nw3 (S))] [ints .u64 (nw3 (mulV ((S+lev (((pl.set m 1).drop 0).take (m+1-0)))*r)))] [ints .u8 ((pl).set m 1),#[.int .i64 ((m:Nat):Int)]] r1_3 rfl kj kj (isz (n:=3) kj (izT (Qa3 _))) (by rw [Qab,Qab]; simp only [qS,cat,(izT (Qa3 _))]; rfl) (eqsz (n:=3) (izT (Qa3 _)) (izT (Qa3 _))) (ints_one _ _)) fun W4 p4 r1_4=>?_
  refine sgN hK3 <| Qao <| sg 3 kj <| Qai g _ (cat [ints .u64 (nw3 r),ints .u64 (nw3 s),ints .u64 (nw3 (mulV ((S+lev (((pl.set m 1).drop 0).take (m+1-0)))*r))),ints .u8 ((pl).set m 1),#[.int .i64 0]]) 217 r1_4 rfl kj (run_storeQ 3 _ _ g 26 217 [ints .u64 (nw3 r),ints .u64 (nw3 s),ints .u64 (nw3 (mulV ((S+lev (((pl.set m 1).drop 0).take (m+1-0)))*r))),ints .u8 ((pl).set m 1)] [] _ (.int .i64 0) r1_4 rfl kj kj kj (by rw [Qab,Qab,Qab,Qab]; simp only [qS,cat,(izT ((za6 ..).trans hpl)),(izT (Qa3 _))]; rfl) rfl rfl) fun W5 p5 r1_5=>?_
  refine Qaz ?_
  repeat (first | with_reducible refine goX1 ?_ | with_reducible refine goX2 ?_ | with_reducible refine goX3 ?_)
  exact (show bodyPost _ _ _ .normal _ _ from end0 rfl ⟨rfl,(zba (zba (zaZ (zba (zaZ (zaY g w) e1) p2) e3) p4) p5),by have h9:=r1_5; rw [hset] at h9; exact h9⟩)
end Ae
end
section
namespace Ae
open Go Go.RowKit
open Rely Auto Own Sha
open Sha Cha
section
variable {ds : List Deferred} {P : Program} {ops : Array Oper} {Q : Exit → Act → World → Prop} {rest : List Oper} {o : Oper} {N : Nat} {L : Env} {W : World}
theorem QhV {k : IntKind} {e:TypeId} (x y:Operand) (tx ty:TypeId) (d:Nat) (ho:o.op=.call { callee:=.builtin .copy,args:=#[x,y],argTypes:=#[tx,ty] }) (hu:P.underlying tx=some (.slice e)) (hsz:(P.info? e).map (·.size)=some 1) (hd:o.dst=some d) (hgd:Qcd ops o N L=some true)
    {g n0 off dl dc n B:Nat} (pre post:List (Array Value)) {xs z:List Int} {v:Value} {T:TypeId} (hp:(cat pre).size=n0) (hx:Rely.look (envN N L) x=.slice (some ⟨g,n0+off,none⟩) dl dc) (hy:Rely.look (envN N L) y=v) (hr:RdK k B z v W)
    (hg:W.heap[g]? = some (.cells (cat (pre++([ints k xs]++post))) T)) (hq:off+dl≤xs.length) (hn:n=min z.length dl) (h0:0<n)
    (kk:∀ W':World,Puts W g W'→W'.heap[g]? = some (.cells (cat (pre++([ints k (xs.take off++z.take n++xs.drop (off+n))]++post))) T)→WL P ops Q rest (Qau ds N ((d,.int .i64 ((n:Nat):Int))::L)) W'):WL P ops Q (o::rest) (Qau ds N L) W:=by
  obtain ⟨a,cap,rfl,y2,y3,y4,y5⟩:=hr
  have hgo:∀ W',(Builtin.copy_ #[tx,ty] o.type #[.slice (some ⟨g,n0+off,none⟩) dl dc,.slice a z.length cap]).run P W=.ok (goInt n) W'→(execOp (Rely.look (envN N L)) o).run P W=.ok (.value (.int .i64 ((n:Nat):Int))) W':=fun W' h=>by
    unfold execOp
    simp only [ho,resolve,invoke,builtin,za7,za8,za9,List.map_toArray,List.map_cons,List.map_nil,hx,hy,h,goInt]
  obtain ⟨gz,oz,rfl,z2,z3,z4⟩:=y5.resolve_left (fun e=>by rw [e] at hn; simp at hn; omega)
  have hlen:((z.take n).map (zav k)).length=n:=by simp; omega
  have hsz2:(cat (pre++([ints k xs]++post))).size=n0+xs.length+(cat post).size:=by
    rw [Qa5,Qa5,qS,qS,hp]
    show n0+((cat [ints k xs]).size+(cat post).size)=_
    rw [show cat [ints k xs]=ints k xs by simp [cat],QaD]; omega
  have h:=run_copy_row (P:=P) W tx ty o.type e g (n0+off) dl dc ⟨gz,oz,none⟩ z.length cap (cat (pre++([ints k xs]++post))) T ((z.take n).map (zav k)) hu hsz hg (by rw [hlen]; exact hn)
    (Qir (k:=k) (ys:=z.take n) fun i hi=>by
      rw [zaq] at hi
      rw [z4 i (by omega)]
      simp [nth,show i<n by omega]) (by rw [hlen,hsz2]; omega) (QkG k _)
  rw [hlen] at h
  have hpl:(cat pre).toList.length=n0:=by rw [Array.length_toList,hp]
  have e1:((cat (pre++([ints k xs]++post))).toList.take (n0+off)++(z.take n).map (zav k)++(cat (pre++([ints k xs]++post))).toList.drop (n0+off+n)).toArray=cat (pre++([ints k (xs.take off++z.take n++xs.drop (off+n))]++post)):=by
    apply zaA
    have ec:∀ ys:List Int,(cat (pre++([ints k ys]++post))).toList=(cat pre).toList++(ys.map (zav k)++(cat post).toList):=fun ys=>by
      rw [Qa5,Qa5]
      simp [cat,ints]
    show (cat (pre++([ints k xs]++post))).toList.take (n0+off)++(z.take n).map (zav k)++(cat (pre++([ints k xs]++post))).toList.drop (n0+off+n)=_
    rw [ec,ec,List.take_append,zaB (by omega),hpl,show n0+off-n0=off by omega,zaC (by rw [zaD]; omega),List.drop_append,zaE (by omega),hpl,show n0+off+n-n0=off+n by omega,zam,zaF (by rw [zaD]; omega)]
    simp only [List.map_append,List.map_take,List.map_drop,zaG]
  rw [e1] at h
  exact Qcs _ _ d hd hgd (hgo _ h) (kk _ (QbO _ _ _) (setRow_heap _ _ _ _ _ _ hg))
end
theorem Qgp (r : Int) (u z:List Int):∀ n,16*n≤u.length→Qeq r (u++z) n=Qeq r u n
  | 0,_=>rfl
  | n+1,h=>by
    unfold Qeq
    rw [Qgp r u z n (by omega),zaF (by omega),zaC (by rw [za5]; omega)]
theorem QqV {r S:Int} {u z:List Int} {q m:Nat} (hu:u.length=16*q+m) (hz:z.length=16-m) (hm:m<16) (hS:S%PP=Qeq r u q):Qgi r S (u.drop (16*q)++z)%PP=Qeq r (u++z) (q+1):=by
  unfold Qeq Qgi
  rw [Qgp r u z q (by omega),zaF (by omega),zaB (by rw [zaH,za5]; omega)]
  exact QgE hS (QjW _)
theorem into_take {pl z:List Int} {m n:Nat} (hm:m≤pl.length) (hz:z.length=n):(pl.take m++z++pl.drop (m+n)).take (m+n)=pl.take m++z:=by
  have h1:(pl.take m++z).length=m+n:=by rw [zaH,zaq,hz]; omega
  rw [zaC (by omega),zaB (by omega)]
theorem into_len {pl z:List Int} {m n:Nat} (hm:m+n≤pl.length) (hz:z.length=n):(pl.take m++z++pl.drop (m+n)).length=pl.length:=by
  rw [zaH,zaH,zaq,za5,hz]; omega
theorem QhP (ys : List Int) (k n:Nat):ys.take (k+n)=ys.take k++(ys.drop k).take n:=List.take_add ..
def Mk (g : Nat) (r s:Int) (t:List Int) (W:World):Prop:=∃ (S:Int) (pl:List Int) (q m:Nat),t.length=16*q+m∧m<16∧W.heap[g]? = some (.cells (cat [ints .u64 (nw3 r),ints .u64 (nw3 s),ints .u64 (nw3 (S)),ints .u8 (pl),#[.int .i64 ((m:Nat):Int)]]) 217)∧S%PP=Qeq r t q∧(0≤S∧S<2041694201525630780780247644590609268736)∧pl.length=17∧Qaf pl∧pl.take m=t.drop (16*q)
set_option maxRecDepth 100000 in
theorem addC (g : Nat) (r s:Int) (t ys:List Int) (v:Value) (B:Nat) (w:World) (hr:0≤r∧r<21267647932558653966460912964485513216) (hBg:B≤g) (hy:RdK .u8 B ys v w) (hyb:Qaf ys) (hyl:ys.length≤3000000) (hM:Mk g r s t w) :
  Calls Tryz.prog 134 #[.pointer (some ⟨g,0,none⟩),v] w (fun e W=>e=.returned (.tuple #[])∧ExtB g w W∧Mk g r s (t++ys) W):=by
 obtain ⟨S0,pl0,q0,m0,hq0,hm0,hg,hSm0,hS0,hpl0,hpb0,hpt0⟩:=hM
 refine enter 36 [(0,.pointer (some ⟨g,0,none⟩)),(1,v)] Tryz.func134 rfl rfl kj rfl <| wp_block <| QaT (fun (s1:Nat×Nat×Nat×Int×List Int×Value)=>[(0,.pointer (some ⟨g,0,none⟩)),(1,s1.2.2.2.2.2)]) (fun (s1:Nat×Nat×Nat×Int×List Int×Value) W=>(s1.1≤ys.length)∧(RdK .u8 B (ys.drop s1.1) s1.2.2.2.2.2 W)∧(t.length+s1.1=16*s1.2.2.1+s1.2.1∧s1.2.1<16)∧(s1.2.2.2.1%PP=Qeq r (t++ys.take s1.1) s1.2.2.1)∧(0≤s1.2.2.2.1∧s1.2.2.2.1<2041694201525630780780247644590609268736)∧(s1.2.2.2.2.1.length=17)∧(Qaf s1.2.2.2.2.1)∧(s1.2.2.2.2.1.take s1.2.1=(t++ys.take s1.1).drop (16*s1.2.2.1))∧(W.heap[g]? = some (.cells (cat [ints .u64 (nw3 r),ints .u64 (nw3 s),ints .u64 (nw3 (s1.2.2.2.1)),ints .u8 (s1.2.2.2.2.1),#[.int .i64 ((s1.2.1:Nat):Int)]]) 217))∧(Qa0 [g] w W)∧(ExtB g w W)) (fun (s1:Nat×Nat×Nat×Int×List Int×Value)=>ys.length-s1.1) (0,m0,q0,S0,pl0,v) ⟨kj,kj,trivial⟩ ⟨(zap _),(show RdK .u8 B (ys.drop 0) v w from hy),⟨hq0,hm0⟩,(show S0%PP=Qeq r (t++ys.take 0) q0 by rw [zao,zaI]; exact hSm0),hS0,hpl0,hpb0,(show pl0.take m0=(t++ys.take 0).drop (16*q0) by rw [zao,zaI]; exact hpt0),hg,(zbh [g] w),(zaY g w)⟩ fun s1 X1 V1 hI1=>?_
 obtain ⟨k,m,q,S,pl,bv⟩:=s1
 obtain ⟨hk,hrb,hmq,hSm,hS,hpl,hpb,hpt,q1_1,kk1,xx1⟩:=hI1
 replace hk:k≤ys.length:=hk
 replace hrb:RdK .u8 B (ys.drop k) bv V1:=hrb
 replace hmq:t.length+k=16*q+m∧m<16:=hmq
 replace hSm:S%PP=Qeq r (t++ys.take k) q:=hSm
 replace hS:0≤S∧S<2041694201525630780780247644590609268736:=hS
 replace hpl:pl.length=17:=hpl
 replace hpb:Qaf pl:=hpb
 replace hpt:pl.take m=(t++ys.take k).drop (16*q):=hpt
 replace q1_1:V1.heap[g]? = some (.cells (cat [ints .u64 (nw3 r),ints .u64 (nw3 s),ints .u64 (nw3 (S)),ints .u8 (pl),#[.int .i64 ((m:Nat):Int)]]) 217):=q1_1
 replace kk1:Qa0 [g] w V1:=kk1
 replace xx1:ExtB g w V1:=xx1
 have q1:=kk1
 obtain ⟨ab,cb,rfl,hcb,-,-,-⟩:=id hrb
 have hld:(ys.drop k).length=ys.length-k:=za5 ..
 refine wp_seq_k fun K2 hK2=>sgB kj <| QaC (t:=decide ((((ys.drop k).length:Nat):Int)>0)) kj (fun c4=>?_) (fun c4=>?_)
 ·skip
  have hlt:k<ys.length:=by have:=of_decide_eq_true c4; omega
  refine wp_skip <| hK2 _ _ <| wp_block <| wp_seq_k fun K5 hK5=>?_
  rcases (show 16-m≤ys.length-k∨ys.length-k<16-m by omega) with hq | hq
  ·skip
   obtain ⟨n,en⟩:∃ z,z=(16-m):=⟨_,rfl⟩
   have hn0:0<n∧m+n≤16∧k+n≤ys.length:=by omega
   have hnm:n=min (ys.drop k).length (16-m):=by omega
   refine Qba 9 [⟨none,[(0,none)]⟩,⟨none,[(8,some 0)]⟩,⟨none,[(9,some 1)]⟩,⟨none,[(0,none)]⟩,⟨none,[(11,some 3)]⟩,⟨none,[(12,some 4)]⟩,⟨none,[(13,some 5)]⟩,⟨none,[(10,some 2),(14,some 6)]⟩,⟨none,[(1,none)]⟩] kj kj fun F hF=>Qa6 (Qar _) (.pointer (some ⟨g,0,none⟩)) kj kj (fun _=>kj) <| Qa6 (Qar _) (.pointer (some ⟨g,0,none⟩)) kj kj (fun _=>kj) <| Qa6 (Qar _) (.pointer (some ⟨g,9,none⟩)) kj kj (fun _=>kj) <| Qa6 (Qar _) (.pointer (some ⟨g,0,none⟩)) kj kj (fun _=>kj) <| Qa6 (Qar _) (.pointer (some ⟨g,0,none⟩)) kj kj (fun _=>kj) <| Qa6 (Qar _) (.pointer (some ⟨g,26,none⟩)) kj kj (fun _=>kj) <| QcF (Qar _) (.int .i64 ((m:Nat):Int)) kj kj (fun W hR=>(Qaj 3 _ g 26 217 _ (.int .i64 ((m:Nat):Int)) _ (Qaa (Qaa q1_1 (Qah _)) hR) rfl kj (Qaq [ints .u64 (nw3 r),ints .u64 (nw3 s),ints .u64 (nw3 (S)),ints .u8 (pl)] [#[.int .i64 ((m:Nat):Int)]] [] 26 (by rw [Qab,Qab,Qab,Qab]; simp only [qS,cat,(izT (Qa3 _)),(izT hpl)]; rfl) 0 _ rfl) kj)) ?_
   refine Qa6 (Qar _) (.slice (some ⟨g,9+m,none⟩) (16-m) (17-m)) kj kj (fun W=>(Qct 215 _ _ _ m 16 17 g 9 5 rfl kj kj kj ⟨.i64,by kernel_rfl⟩ ⟨.i64,by kernel_rfl⟩ (by omega) (by omega) (by omega))) <| Qa6 (Qar _) (.slice ab ((ys.drop k).length) cb) kj kj (fun _=>kj) <| Qdr (hF _ fun W2 e2=>?_)
   simp only [zam,zan,zax,zao,zay,zaz,finE,up]
   clear hF
   have x2:=zaZ xx1 e2
   have r1_2:=(Qaa q1_1 e2)
   have f6_2:=(hrb.ext e2)
   refine QhV (k:=.u8) (e:=5) (n0:=9) (off:=m) (dl:=16-m) (dc:=17-m) (n:=n) (.tmp 15) (.tmp 16) 24 24 17 rfl kj kj rfl kj [ints .u64 (nw3 r),ints .u64 (nw3 s),ints .u64 (nw3 (S))] [#[.int .i64 ((m:Nat):Int)]] (xs:=pl) (z:=ys.drop k) kj kj kj f6_2 r1_2 (by rw [hpl]; omega) hnm hn0.1 fun W3 p3 r1_3=>?_
   have x3:=zba x2 p3
   obtain ⟨z,ez⟩:∃ z,z=(ys.drop k).take n:=⟨_,rfl⟩
   have hzl:z.length=n:=by rw [ez,zaq]; omega
   have hzb:Qaf z:=ez▸Qbq (Qcb hyb k) n
   rw [←ez] at r1_3
   obtain ⟨pl1,epl1⟩:∃ y,y=pl.take m++z++pl.drop (m+n):=⟨_,rfl⟩
   have hpl1:pl1.length=17:=by rw [epl1,into_len (by omega) hzl,hpl]
   have hpb1:Qaf pl1:=epl1▸bytes_app (bytes_app (Qbq hpb m) hzb) (Qcb hpb _)
   rw [←epl1] at r1_3
   have hpt1:pl1.take (m+n)=pl.take m++z:=by rw [epl1]; exact into_take (by omega) hzl
   refine sg 1 kj <| sgN hK5 <| sgC fun K7 hK7=>sg 2 kj <| Qac (.slice (restA ab cb n) ((ys.drop k).length-n) (cb-n)) 20 rfl kj (Qft (len:=(ys.drop k).length) 24 _ _ n 5 rfl kj kj kj .i64 kj (by omega) hcb) <| sg 1 kj <| sgN hK7 <| sgC fun K8 hK8=>sg 3 kj <| Qac (.int .i64 ((m:Nat):Int)) 24 rfl kj (Qaj 3 _ g 26 217 _ (.int .i64 ((m:Nat):Int)) _ r1_3 rfl kj (Qaq [ints .u64 (nw3 r),ints .u64 (nw3 s),ints .u64 (nw3 (S)),ints .u8 (pl1)] [#[.int .i64 ((m:Nat):Int)]] [] 26 (by rw [Qab,Qab,Qab,Qab]; simp only [qS,cat,(izT (Qa3 _)),(izT hpl1)]; rfl) 0 _ rfl) kj) ?_
   refine sg 1 kj <| Qac (.int .i64 ((m+n:Nat):Int)) 26 rfl kj (Qam (u:=.int .i64 (zat.wrap (((m:Nat):Int)+((n:Nat):Int)))) kj (congrArg (zav .i64) (i64n _ _ (by omega) (by omega)))) <| sg 2 kj <| Qai g _ (cat [ints .u64 (nw3 r),ints .u64 (nw3 s),ints .u64 (nw3 (S)),ints .u8 (pl1),#[.int .i64 ((m+n:Nat):Int)]]) 217 r1_3 rfl kj (run_storeQ 3 _ _ g 26 217 [ints .u64 (nw3 r),ints .u64 (nw3 s),ints .u64 (nw3 (S)),ints .u8 (pl1)] [] _ (.int .i64 ((m+n:Nat):Int)) r1_3 rfl kj kj kj (by rw [Qab,Qab,Qab,Qab]; simp only [qS,cat,(izT (Qa3 _)),(izT hpl1)]; rfl) rfl rfl) fun W4 p4 r1_4=>?_
   have x4:=zba x3 p4
   refine sgN hK8 <| sgC fun K9 hK9=>sg 3 kj <| Qac (.int .i64 ((m+n:Nat):Int)) 32 rfl kj (Qaj 3 _ g 26 217 _ (.int .i64 ((m+n:Nat):Int)) _ r1_4 rfl kj (Qaq [ints .u64 (nw3 r),ints .u64 (nw3 s),ints .u64 (nw3 (S)),ints .u8 (pl1)] [#[.int .i64 ((m+n:Nat):Int)]] [] 26 (by rw [Qab,Qab,Qab,Qab]; simp only [qS,cat,(izT (Qa3 _)),(izT hpl1)]; rfl) 0 _ rfl) kj) ?_
   refine Qac (.bool true) 33 rfl kj (Qam (u:=.bool ((((m+n:Nat):Int)==16))) kj (congrArg zaJ (by rw [show m+n=16 by omega]; rfl))) ?_
   refine sgN hK9 <| cond_true kj <| Qao <| sg 1 kj <| Qaw (fun v W'=>v=.tuple #[]∧ExtB g W4 W'∧W'.heap[g]? = some (.cells (cat [ints .u64 (nw3 r),ints .u64 (nw3 s),ints .u64 (nw3 (Qgi r S (pl1.take (m+n)))),ints .u8 (pl1.set (m+n) 1),#[.int .i64 0]]) 217)) 146 #[.pointer (some ⟨g,0,none⟩)] 35 rfl kj kj ((QpU g r s S pl1 (m+n) _ hr hS hpl1 hpb1 hn0.2.1 r1_4).mono fun e w' h=>⟨_,h.1,rfl,h.2⟩) fun v W5 h=>?_
   obtain ⟨rfl,q5,r1_5⟩:=h
   have hpl2:(pl1.set (m+n) 1).length=17:=by rw [za6,hpl1]
   refine Qaz ?_
   have hu:(t++ys.take k).length=16*q+m:=by rw [zaH,zaq]; omega
   have htk:t++ys.take (k+n)=(t++ys.take k)++z:=by rw [QhP ys k n,←ez,zaG]
   repeat (first | with_reducible refine goX1 ?_ | with_reducible refine goX2 ?_ | with_reducible refine goX3 ?_)
   exact QaL ((k+n),0,(q+1),(Qgi r S (pl1.take (m+n))),(pl1.set (m+n) 1),(.slice (restA ab cb n) ((ys.drop k).length-n) (cb-n))) ⟨kj,kj,trivial⟩ ⟨(show k+n≤ys.length by omega),(by rw [show ys.drop (k+n)=(ys.drop k).drop n from (zaK ..).symm]; exact Qhr (((f6_2.puts p3 hBg).puts p4 hBg).extB q5 hBg) n (by omega)),(show t.length+(k+n)=16*(q+1)+0∧0<16 by omega),(show _=Qeq r (t++ys.take (k+n)) (q+1) by rw [hpt1,hpt,htk]; exact QqV hu (by omega) hmq.2 hSm),(QjB hS hr (Qbq hpb1 _) (by rw [zaq]; omega)),hpl2,(Qcp hpb1 _ (by decide) (by decide)),(show (pl1.set (m+n) 1).take 0=(t++ys.take (k+n)).drop (16*(q+1)) by rw [htk,zao,zaE (by rw [zaH,hu]; omega)]),r1_5,(Qa0.but (zbj (zbj (Qa0.step q1 e2) p3 (.inl (by simp))) p4 (.inl (by simp))) q5 (.inl (by simp))),(ExtB.trans x4 q5)⟩ (by show ys.length-(k+n)<ys.length-k; omega)
  ·skip
   obtain ⟨n,en⟩:∃ z,z=(ys.length-k):=⟨_,rfl⟩
   have hn0:0<n∧m+n≤16∧k+n≤ys.length:=by omega
   have hnm:n=min (ys.drop k).length (16-m):=by omega
   refine Qba 9 [⟨none,[(0,none)]⟩,⟨none,[(8,some 0)]⟩,⟨none,[(9,some 1)]⟩,⟨none,[(0,none)]⟩,⟨none,[(11,some 3)]⟩,⟨none,[(12,some 4)]⟩,⟨none,[(13,some 5)]⟩,⟨none,[(10,some 2),(14,some 6)]⟩,⟨none,[(1,none)]⟩] kj kj fun F hF=>Qa6 (Qar _) (.pointer (some ⟨g,0,none⟩)) kj kj (fun _=>kj) <| Qa6 (Qar _) (.pointer (some ⟨g,0,none⟩)) kj kj (fun _=>kj) <| Qa6 (Qar _) (.pointer (some ⟨g,9,none⟩)) kj kj (fun _=>kj) <| Qa6 (Qar _) (.pointer (some ⟨g,0,none⟩)) kj kj (fun _=>kj) <| Qa6 (Qar _) (.pointer (some ⟨g,0,none⟩)) kj kj (fun _=>kj) <| Qa6 (Qar _) (.pointer (some ⟨g,26,none⟩)) kj kj (fun _=>kj) <| QcF (Qar _) (.int .i64 ((m:Nat):Int)) kj kj (fun W hR=>(Qaj 3 _ g 26 217 _ (.int .i64 ((m:Nat):Int)) _ (Qaa (Qaa q1_1 (Qah _)) hR) rfl kj (Qaq [ints .u64 (nw3 r),ints .u64 (nw3 s),ints .u64 (nw3 (S)),ints .u8 (pl)] [#[.int .i64 ((m:Nat):Int)]] [] 26 (by rw [Qab,Qab,Qab,Qab]; simp only [qS,cat,(izT (Qa3 _)),(izT hpl)]; rfl) 0 _ rfl) kj)) ?_
   refine Qa6 (Qar _) (.slice (some ⟨g,9+m,none⟩) (16-m) (17-m)) kj kj (fun W=>(Qct 215 _ _ _ m 16 17 g 9 5 rfl kj kj kj ⟨.i64,by kernel_rfl⟩ ⟨.i64,by kernel_rfl⟩ (by omega) (by omega) (by omega))) <| Qa6 (Qar _) (.slice ab ((ys.drop k).length) cb) kj kj (fun _=>kj) <| Qdr (hF _ fun W2 e2=>?_)
   simp only [zam,zan,zax,zao,zay,zaz,finE,up]
   clear hF
   have x2:=zaZ xx1 e2
   have r1_2:=(Qaa q1_1 e2)
   have f13_2:=(hrb.ext e2)
   refine QhV (k:=.u8) (e:=5) (n0:=9) (off:=m) (dl:=16-m) (dc:=17-m) (n:=n) (.tmp 15) (.tmp 16) 24 24 17 rfl kj kj rfl kj [ints .u64 (nw3 r),ints .u64 (nw3 s),ints .u64 (nw3 (S))] [#[.int .i64 ((m:Nat):Int)]] (xs:=pl) (z:=ys.drop k) kj kj kj f13_2 r1_2 (by rw [hpl]; omega) hnm hn0.1 fun W3 p3 r1_3=>?_
   have x3:=zba x2 p3
   obtain ⟨z,ez⟩:∃ z,z=(ys.drop k).take n:=⟨_,rfl⟩
   have hzl:z.length=n:=by rw [ez,zaq]; omega
   have hzb:Qaf z:=ez▸Qbq (Qcb hyb k) n
   rw [←ez] at r1_3
   obtain ⟨pl1,epl1⟩:∃ y,y=pl.take m++z++pl.drop (m+n):=⟨_,rfl⟩
   have hpl1:pl1.length=17:=by rw [epl1,into_len (by omega) hzl,hpl]
   have hpb1:Qaf pl1:=epl1▸bytes_app (bytes_app (Qbq hpb m) hzb) (Qcb hpb _)
   rw [←epl1] at r1_3
   have hpt1:pl1.take (m+n)=pl.take m++z:=by rw [epl1]; exact into_take (by omega) hzl
   refine sg 1 kj <| sgN hK5 <| sgC fun K14 hK14=>sg 2 kj <| Qac (.slice (restA ab cb n) ((ys.drop k).length-n) (cb-n)) 20 rfl kj (Qft (len:=(ys.drop k).length) 24 _ _ n 5 rfl kj kj kj .i64 kj (by omega) hcb) <| sg 1 kj <| sgN hK14 <| sgC fun K15 hK15=>sg 3 kj <| Qac (.int .i64 ((m:Nat):Int)) 24 rfl kj (Qaj 3 _ g 26 217 _ (.int .i64 ((m:Nat):Int)) _ r1_3 rfl kj (Qaq [ints .u64 (nw3 r),ints .u64 (nw3 s),ints .u64 (nw3 (S)),ints .u8 (pl1)] [#[.int .i64 ((m:Nat):Int)]] [] 26 (by rw [Qab,Qab,Qab,Qab]; simp only [qS,cat,(izT (Qa3 _)),(izT hpl1)]; rfl) 0 _ rfl) kj) ?_
   refine sg 1 kj <| Qac (.int .i64 ((m+n:Nat):Int)) 26 rfl kj (Qam (u:=.int .i64 (zat.wrap (((m:Nat):Int)+((n:Nat):Int)))) kj (congrArg (zav .i64) (i64n _ _ (by omega) (by omega)))) <| sg 2 kj <| Qai g _ (cat [ints .u64 (nw3 r),ints .u64 (nw3 s),ints .u64 (nw3 (S)),ints .u8 (pl1),#[.int .i64 ((m+n:Nat):Int)]]) 217 r1_3 rfl kj (run_storeQ 3 _ _ g 26 217 [ints .u64 (nw3 r),ints .u64 (nw3 s),ints .u64 (nw3 (S)),ints .u8 (pl1)] [] _ (.int .i64 ((m+n:Nat):Int)) r1_3 rfl kj kj kj (by rw [Qab,Qab,Qab,Qab]; simp only [qS,cat,(izT (Qa3 _)),(izT hpl1)]; rfl) rfl rfl) fun W4 p4 r1_4=>?_
   have x4:=zba x3 p4
   refine sgN hK15 <| sgC fun K16 hK16=>sg 3 kj <| Qac (.int .i64 ((m+n:Nat):Int)) 32 rfl kj (Qaj 3 _ g 26 217 _ (.int .i64 ((m+n:Nat):Int)) _ r1_4 rfl kj (Qaq [ints .u64 (nw3 r),ints .u64 (nw3 s),ints .u64 (nw3 (S)),ints .u8 (pl1)] [#[.int .i64 ((m+n:Nat):Int)]] [] 26 (by rw [Qab,Qab,Qab,Qab]; simp only [qS,cat,(izT (Qa3 _)),(izT hpl1)]; rfl) 0 _ rfl) kj) ?_
   refine Qac (.bool false) 33 rfl kj (Qam (u:=.bool ((((m+n:Nat):Int)==16))) kj (congrArg zaJ (beq_eq_false_iff_ne.2 (by omega)))) <| sgN hK16 <| cond_false kj <| wp_skip ?_
   have hu:(t++ys.take k).length=16*q+m:=by rw [zaH,zaq]; omega
   have htk:t++ys.take (k+n)=(t++ys.take k)++z:=by rw [QhP ys k n,←ez,zaG]
   repeat (first | with_reducible refine goX1 ?_ | with_reducible refine goX2 ?_ | with_reducible refine goX3 ?_)
   exact QaL ((k+n),(m+n),q,S,pl1,(.slice (restA ab cb n) ((ys.drop k).length-n) (cb-n))) ⟨kj,kj,trivial⟩ ⟨(show k+n≤ys.length by omega),(by rw [show ys.drop (k+n)=(ys.drop k).drop n from (zaK ..).symm]; exact Qhr ((f13_2.puts p3 hBg).puts p4 hBg) n (by omega)),(show t.length+(k+n)=16*q+(m+n)∧m+n<16 by omega),(show _=Qeq r (t++ys.take (k+n)) q by rw [htk,Qgp _ _ _ _ (by omega)]; exact hSm),hS,hpl1,hpb1,(show pl1.take (m+n)=(t++ys.take (k+n)).drop (16*q) by rw [htk,hpt1,hpt]; exact (zaF (by omega)).symm),r1_4,(zbj (zbj (Qa0.step q1 e2) p3 (.inl (by simp))) p4 (.inl (by simp))),x4⟩ (by show ys.length-(k+n)<ys.length-k; omega)
 ·skip
  have hke:k=ys.length:=by have:=of_decide_eq_false c4; omega
  refine wp_exit ?_
  repeat (first | with_reducible refine goX1 ?_ | with_reducible refine goX2 ?_ | with_reducible refine goX3 ?_)
  exact (show bodyPost _ _ _ .normal _ _ from end0 rfl ⟨rfl,xx1,S,pl,q,m,by rw [zaH]; omega,hmq.2,q1_1,by rw [hke,za0] at hSm; exact hSm,hS,hpl,hpb,by rw [hke,za0] at hpt; exact hpt⟩)
end Ae
end
section
namespace Ae
open Go Go.RowKit
open Rely Auto Own Sha
open Sha Cha
def Qm9 (b : List Int):List Int :=
  let b1:=b.set 3 (nth b 3%16)
  let b2:=b1.set 7 (nth b1 7%16)
  let b3:=b2.set 11 (nth b2 11%16)
  let b4:=b3.set 15 (nth b3 15%16)
  let b5:=b4.set 4 (nth b4 4/4*4)
  let b6:=b5.set 8 (nth b5 8/4*4)
  let b7:=b6.set 12 (nth b6 12/4*4)
  b7
theorem Qj1 : ∀ key:List Int,key.length=32→((Qm9 key).drop 0).take (16-0)=QfK ((key.drop 0).take (16-0))
  | [a0,a1,a2,a3,a4,a5,a6,a7,a8,a9,a10,a11,a12,a13,a14,a15,a16,a17,a18,a19,a20,a21,a22,a23,a24,a25,a26,a27,a28,a29,a30,a31],_=>by kernel_rfl
theorem Qod (x : Int) (h:0≤x∧x<256):bits .and .u8 x 15=x%16:=by
  have:∀ n:Fin 256,bits .and .u8 ((n.1:Nat):Int) 15=((n.1:Nat):Int)%16:=by decide +kernel
  obtain ⟨X,rfl⟩:=zaa h.1
  exact this ⟨X,by omega⟩
theorem QmH (x : Int) (h:0≤x∧x<256):bits .and .u8 x 252=x/4*4:=by
  have:∀ n:Fin 256,bits .and .u8 ((n.1:Nat):Int) 252=((n.1:Nat):Int)/4*4:=by decide +kernel
  obtain ⟨X,rfl⟩:=zaa h.1
  exact this ⟨X,by omega⟩
theorem QoW {r : Int} {t:List Int} {q:Nat} (h:t.length=16*q+0):QeR r t=Qeq r t q:=by unfold QeR; rw [show (t.length+15)/16=q by omega]
theorem QqU {r S:Int} {t:List Int} {q m:Nat} (hu:t.length=16*q+m) (h0:0<m) (hm:m<16) (hS:S%PP=Qeq r t q):Qgi r S (t.drop (16*q))%PP=QeR r t:=by
  unfold QeR
  rw [show (t.length+15)/16=q+1 by omega]
  unfold Qeq Qgi
  rw [zaB (by rw [za5]; omega)]
  exact QgE hS (QjW _)
theorem geq4 (S : Int) (h0:0≤S) (h:S<2041694201525630780780247644590609268736):decide (nth (nw3 (S+5)) 2≥4)=decide (1361129467683753853853498429727072845824≤S+5):=by
  have e:nth (nw3 (S+5)) 2=(S+5)/340282366920938463463374607431768211456%18446744073709551616:=rfl
  rw [e]
  exact decide_eq_decide.2 (by omega)
theorem Qkn (x : Int):by16 (x+1361129467683753853853498429727072845824)=by16 x:=by
  unfold by16
  refine List.map_congr_left fun i hi=>?_
  rw [List.mem_range] at hi
  have h1:(1361129467683753853853498429727072845824:Int)=p256 i*(256*(4*p256 (15-i))):=by
    have h2:p256 16=p256 i*p256 (16-i):=by rw [←Qe8]; congr 1; omega
    rw [show 16-i=(15-i)+1 by omega,Qfe (15-i),p16] at h2
    grind
  rw [h1,zaL _ _ (Int.ne_of_gt (Qed i))]
  omega
theorem QnS (a : Int) (b c:Nat):a/p256 b/p256 c=a/p256 (b+c):=by
  rw [Qe8,Int.ediv_ediv,if_neg (by have:=Qed b; omega)]; exact Int.sub_zero _
theorem out_byte (V : Int) (i:Nat) (hi:i<16):zaM.wrap (nth (nw3 V) (i/8)/p256 (i%8))=nth (by16 V) i:=by
  have h3:∀ z:Int,zaM.wrap z=z%256:=fun _=>rfl
  have hp8:p256 8=18446744073709551616:=by decide +kernel
  rw [h3,QnZ _ _ hi]
  have hB:(18446744073709551616:Int)=p256 (i%8)*(256*p256 (7-i%8)):=by
    have h2:p256 8=p256 (i%8)*p256 (8-i%8):=by rw [←Qe8]; congr 1; omega
    rw [show 8-i%8=(7-i%8)+1 by omega,Qfe (7-i%8),hp8] at h2
    exact h2
  have key:∀ x:Int,x%18446744073709551616/p256 (i%8)%256=x/p256 (i%8)%256:=fun x=>by
    have h5:x=x%18446744073709551616+p256 (i%8)*(256*(p256 (7-i%8)*(x/18446744073709551616))):=by
      have h6:x=x%18446744073709551616+18446744073709551616*(x/18446744073709551616):=(Int.emod_add_mul_ediv x _).symm
      have h7:(18446744073709551616:Int)*(x/18446744073709551616)=p256 (i%8)*(256*(p256 (7-i%8)*(x/18446744073709551616))):=by
        generalize x/18446744073709551616=y at *
        rw [hB]; grind
      omega
    have h8:x/p256 (i%8)=x%18446744073709551616/p256 (i%8)+256*(p256 (7-i%8)*(x/18446744073709551616)):=by
      have h9:=zaL (x%18446744073709551616) (256*(p256 (7-i%8)*(x/18446744073709551616))) (Int.ne_of_gt (Qed (i%8)))
      rw [←h5] at h9
      exact h9
    omega
  rcases (show i/8=0∨i/8=1 by omega) with h | h
  · rw [h]
    show V%18446744073709551616/p256 (i%8)%256=_
    rw [key,show i%8=i by omega]
  · rw [h]
    show V/18446744073709551616%18446744073709551616/p256 (i%8)%256=_
    rw [key,←hp8,QnS,show 8+i%8=i by omega]
theorem shr8 (q : Int) (t:Nat) (c:Int) (hc:c=((8*t:Nat):Int)) (ht:t<8):q.fdiv (2^min c.toNat zac.bits)=q/p256 t:=by
  subst hc
  have hm:min (((8*t:Nat):Int)).toNat zac.bits=8*t:=by show min (((8*t:Nat):Int)).toNat 64=8*t; omega
  have e:(2:Int)^(8*t)=p256 t:=by unfold p256; rw [Int.pow_mul]; rfl
  rw [hm,e,za1 _ (Int.le_of_lt (Qed t))]
theorem Qko {b : List Int} (h:Qaf b) (i:Nat):Qaf (b.set i (nth b i%16)):=Qcp h _ (by omega) (by omega)
theorem Qp9 {b : List Int} (h:Qaf b) (i:Nat):Qaf (b.set i (nth b i/4*4)):=Qcp h _ (by have:=Qbt h i; omega) (by have:=Qbt h i; omega)
theorem QgK (key : List Int) (hkl:key.length=32) (hkb:Qaf key):0≤rOf key∧rOf key<21267647932558653966460912964485513216:=by
  unfold rOf
  obtain ⟨b0,e0⟩:∃ z,z=(key.drop 0).take (16-0):=⟨_,rfl⟩
  have hl0:b0.length=16:=by rw [e0,zaq,za5,hkl]; rfl
  have hb0:Qaf b0:=e0▸Qbq (Qcb hkb 0) _
  rw [←e0]
  have hcb:Qaf (QfK b0):=by
    exact Qp9 (Qp9 (Qp9 (Qko (Qko (Qko (Qko hb0 3) 7) 11) 15) 4) 8) 12
  have hl:(QfK b0).length=16:=by unfold QfK; simp only [za6,hl0]
  have h15:nth (QfK b0) 15≤15:=by
    obtain ⟨x15,e15⟩:∃ x,nth (QfK b0) 15=x%16:=by
      match b0,hl0 with
      | [a0,a1,a2,a3,a4,a5,a6,a7,a8,a9,a10,a11,a12,a13,a14,a15],_=>exact ⟨a15,rfl⟩
    rw [e15]; omega
  have h1:=Qff (QfK b0) 15 (by omega)
  rw [zaB (by omega)] at h1
  have h2:=Qi2 (Qbq hcb 15)
  have h3:=QdO hcb
  rw [zaq,zar (by omega)] at h2
  have hp15:p256 15=1329227995784915872903807060280344576:=by decide +kernel
  rw [hp15] at h1 h2
  omega
theorem Qqa (key : List Int) (hkl:key.length=32) (hkb:Qaf key):0≤sOf key∧sOf key<340282366920938463463374607431768211456:=by
  unfold sOf
  have h1:=Qi2 (Qbq (Qcb hkb 16) (32-16))
  rw [zaq,za5,hkl] at h1
  exact ⟨QdO (Qbq (Qcb hkb 16) _),by rw [←p16]; exact h1⟩
set_option maxRecDepth 100000 in
theorem QkI (key : List Int) (w:World) (hkl:key.length=32) (hkb:Qaf key):Calls Tryz.prog 133 #[.agg (ints .u8 key)] w (QcL w (fun v W=>∃ g,v=.pointer (some ⟨g,0,none⟩)∧w.heap.size≤g∧Mk g (rOf key) (sOf key) [] W)):=by
  refine enter 35 [(0,.agg (ints .u8 (key)))] Tryz.func133 rfl rfl kj rfl <| sgC fun K1 hK1=>Qak (ints .u8 (key)) 23 1 rfl kj kj fun g2 W1 l2 e1 r2_1=>?_
  have b2:=qT (zaT w).size l2
  refine sg 1 kj <| sgN hK1 <| sgC fun K3 hK3=>Qac (.slice (some ⟨g2,0+16,none⟩) (32-16) (32-16)) 8 rfl kj (Qct 23 _ _ _ 16 32 32 g2 0 5 rfl kj kj kj ⟨.i64,by kernel_rfl⟩ rfl (by omega) (by omega) (by omega)) <| Qas (.agg (ints .u64 (nw3 (lev ((key.drop 16).take (32-16)))))) 145 #[.slice (some ⟨g2,0+16,none⟩) (32-16) (32-16)] 9 rfl kj kj ((Qln ((key.drop 16).take (32-16)) _ _ _ (QlA (l:=16) (h:=32) hkl r2_1 (by decide) (by decide) (by decide)) (by rw [zaq]; omega) (Qbq (Qcb hkb 16) _))) fun W2 e2=>?_
  have x2:=zaX (zaX (zaT w) e1) e2
  refine Qak (ints .u64 ([0,0,0])) 212 3 rfl kj kj fun g4 W3 l4 e3 r4_3=>Qai g4 _ (ints .u64 (nw3 (lev ((key.drop 16).take (32-16))))) 212 r4_3 rfl kj (Qag 212 _ _ g4 212 _ _ r4_3 rfl kj kj (isz (n:=3) kj (izT (Qa3 _))) (eqsz (n:=3) kj (izT (Qa3 _))) (ints_one _ _)) fun W4 p4 r4_4=>sgN hK3 <| wp_seq_k fun K5 hK5=>sgB kj <| wp_block <| wp_loop_rounds 5 ?_
  show zak _ _ (Exit.then (zal _ _ _ 4) _) _ _
  refine sgB kj <| sgT kj <| wp_seq_k fun K9 hK9=>wp_block <| sgC fun K10 hK10=>Qac (.int .i64 3) 13 rfl kj (QaB 207 _ _ .i64 .i64 ([3,7,11,15]) 0 4 3 3 rfl kj kj kj kj kj rfl (by decide) rfl) <| sg 1 kj <| sgN hK10 <| Qao <| sg 2 kj ?_
  have r2_2:=(Qaa r2_1 e2)
  have r2_4:=(rpn p4 r2_2 e3 l4)
  refine Qac (.int .u8 (nth (key) 3)) 16 rfl kj (Qaj 5 _ g2 3 23 _ (.int .u8 (nth (key) 3)) _ r2_4 rfl kj (Qay _ _ _ (zas (by decide) hkl.symm)) kj) <| Qac (.int .u8 (nth key 3%16)) 17 rfl kj (Qam (u:=.int .u8 (bits .and .u8 ((nth (key) 3)) (15))) kj (congrArg (zav .u8) (Qod _ (Qbt hkb 3)))) <| sg 1 kj <| Qai g2 _ (ints .u8 ((key).set 3 (nth key 3%16))) 23 r2_4 rfl kj (Qa1 5 _ _ g2 3 23 _ _ r2_4 rfl kj kj kj (zas (show 3<32 by decide) hkl.symm)) fun W5 p5 r2_5=>?_
  obtain ⟨c1_,ec1_⟩:∃ z,z=(key).set 3 (nth key 3%16):=⟨_,rfl⟩
  have hlc1_:c1_.length=32:=by rw [ec1_,za6,hkl]
  have hxc1_:=Qbt hkb 3
  have hbc1_:Qaf c1_:=ec1_▸Qcp hkb _ (by omega) (by omega)
  have r2_5_11:W5.heap[g2]? = some (.cells (ints .u8 (c1_)) 23):=QaG r2_5 (by rw [ec1_])
  refine Qaz <| hK9 _ _ <| sgA kj ?_
  show zal _ _ _ 4 _ _
  show zak _ _ (Exit.then (zal _ _ _ 3) _) _ _
  refine sgB kj <| sgT kj <| wp_seq_k fun K14 hK14=>wp_block <| sgC fun K15 hK15=>Qac (.int .i64 7) 13 rfl kj (QaB 207 _ _ .i64 .i64 ([3,7,11,15]) 1 4 3 7 rfl kj kj kj kj kj rfl (by decide) rfl) <| sg 1 kj <| sgN hK15 <| Qao <| sg 2 kj ?_
  refine Qac (.int .u8 (nth (c1_) 7)) 16 rfl kj (Qaj 5 _ g2 7 23 _ (.int .u8 (nth (c1_) 7)) _ r2_5_11 rfl kj (Qay _ _ _ (zas (by decide) hlc1_.symm)) kj) <| Qac (.int .u8 (nth c1_ 7%16)) 17 rfl kj (Qam (u:=.int .u8 (bits .and .u8 ((nth (c1_) 7)) (15))) kj (congrArg (zav .u8) (Qod _ (Qbt hbc1_ 7)))) <| sg 1 kj <| Qai g2 _ (ints .u8 ((c1_).set 7 (nth c1_ 7%16))) 23 r2_5_11 rfl kj (Qa1 5 _ _ g2 7 23 _ _ r2_5_11 rfl kj kj kj (zas (show 7<32 by decide) hlc1_.symm)) fun W6 p6 r2_6=>?_
  obtain ⟨c2_,ec2_⟩:∃ z,z=(c1_).set 7 (nth c1_ 7%16):=⟨_,rfl⟩
  have hlc2_:c2_.length=32:=by rw [ec2_,za6,hlc1_]
  have hxc2_:=Qbt hbc1_ 7
  have hbc2_:Qaf c2_:=ec2_▸Qcp hbc1_ _ (by omega) (by omega)
  have r2_6_16:W6.heap[g2]? = some (.cells (ints .u8 (c2_)) 23):=QaG r2_6 (by rw [ec2_])
  refine Qaz <| hK14 _ _ <| sgA kj ?_
  show zal _ _ _ 3 _ _
  show zak _ _ (Exit.then (zal _ _ _ 2) _) _ _
  refine sgB kj <| sgT kj <| wp_seq_k fun K19 hK19=>wp_block <| sgC fun K20 hK20=>Qac (.int .i64 11) 13 rfl kj (QaB 207 _ _ .i64 .i64 ([3,7,11,15]) 2 4 3 11 rfl kj kj kj kj kj rfl (by decide) rfl) <| sg 1 kj <| sgN hK20 <| Qao <| sg 2 kj ?_
  refine Qac (.int .u8 (nth (c2_) 11)) 16 rfl kj (Qaj 5 _ g2 11 23 _ (.int .u8 (nth (c2_) 11)) _ r2_6_16 rfl kj (Qay _ _ _ (zas (by decide) hlc2_.symm)) kj) <| Qac (.int .u8 (nth c2_ 11%16)) 17 rfl kj (Qam (u:=.int .u8 (bits .and .u8 ((nth (c2_) 11)) (15))) kj (congrArg (zav .u8) (Qod _ (Qbt hbc2_ 11)))) <| sg 1 kj <| Qai g2 _ (ints .u8 ((c2_).set 11 (nth c2_ 11%16))) 23 r2_6_16 rfl kj (Qa1 5 _ _ g2 11 23 _ _ r2_6_16 rfl kj kj kj (zas (show 11<32 by decide) hlc2_.symm)) fun W7 p7 r2_7=>?_
  obtain ⟨c3_,ec3_⟩:∃ z,z=(c2_).set 11 (nth c2_ 11%16):=⟨_,rfl⟩
  have hlc3_:c3_.length=32:=by rw [ec3_,za6,hlc2_]
  have hxc3_:=Qbt hbc2_ 11
  have hbc3_:Qaf c3_:=ec3_▸Qcp hbc2_ _ (by omega) (by omega)
  have r2_7_21:W7.heap[g2]? = some (.cells (ints .u8 (c3_)) 23):=QaG r2_7 (by rw [ec3_])
  refine Qaz <| hK19 _ _ <| sgA kj ?_
  show zal _ _ _ 2 _ _
  show zak _ _ (Exit.then (zal _ _ _ 1) _) _ _
  refine sgB kj <| sgT kj <| wp_seq_k fun K24 hK24=>wp_block <| sgC fun K25 hK25=>Qac (.int .i64 15) 13 rfl kj (QaB 207 _ _ .i64 .i64 ([3,7,11,15]) 3 4 3 15 rfl kj kj kj kj kj rfl (by decide) rfl) <| sg 1 kj <| sgN hK25 <| Qao <| sg 2 kj ?_
  refine Qac (.int .u8 (nth (c3_) 15)) 16 rfl kj (Qaj 5 _ g2 15 23 _ (.int .u8 (nth (c3_) 15)) _ r2_7_21 rfl kj (Qay _ _ _ (zas (by decide) hlc3_.symm)) kj) <| Qac (.int .u8 (nth c3_ 15%16)) 17 rfl kj (Qam (u:=.int .u8 (bits .and .u8 ((nth (c3_) 15)) (15))) kj (congrArg (zav .u8) (Qod _ (Qbt hbc3_ 15)))) <| sg 1 kj <| Qai g2 _ (ints .u8 ((c3_).set 15 (nth c3_ 15%16))) 23 r2_7_21 rfl kj (Qa1 5 _ _ g2 15 23 _ _ r2_7_21 rfl kj kj kj (zas (show 15<32 by decide) hlc3_.symm)) fun W8 p8 r2_8=>?_
  obtain ⟨c4_,ec4_⟩:∃ z,z=(c3_).set 15 (nth c3_ 15%16):=⟨_,rfl⟩
  have hlc4_:c4_.length=32:=by rw [ec4_,za6,hlc3_]
  have hxc4_:=Qbt hbc3_ 15
  have hbc4_:Qaf c4_:=ec4_▸Qcp hbc3_ _ (by omega) (by omega)
  have r2_8_26:W8.heap[g2]? = some (.cells (ints .u8 (c4_)) 23):=QaG r2_8 (by rw [ec4_])
  refine Qaz <| hK24 _ _ <| sgA kj ?_
  show zal _ _ _ 1 _ _
  show zak _ _ (Exit.then (zal _ _ _ 0) _) _ _
  refine sgB kj <| wp_seq_k fun K28 hK28=>cond_false kj <| wp_exit <| hK5 _ _ <| wp_seq_k fun K29 hK29=>sgB kj <| wp_block <| wp_loop_rounds 4 ?_
  show zak _ _ (Exit.then (zal _ _ _ 3) _) _ _
  refine sgB kj <| sgT kj <| wp_seq_k fun K33 hK33=>wp_block <| sgC fun K34 hK34=>Qac (.int .i64 4) 23 rfl kj (QaB 214 _ _ .i64 .i64 ([4,8,12]) 0 3 3 4 rfl kj kj kj kj kj rfl (by decide) rfl) <| sg 1 kj <| sgN hK34 <| Qao <| sg 2 kj ?_
  refine Qac (.int .u8 (nth (c4_) 4)) 26 rfl kj (Qaj 5 _ g2 4 23 _ (.int .u8 (nth (c4_) 4)) _ r2_8_26 rfl kj (Qay _ _ _ (zas (by decide) hlc4_.symm)) kj) <| Qac (.int .u8 (nth c4_ 4/4*4)) 27 rfl kj (Qam (u:=.int .u8 (bits .and .u8 ((nth (c4_) 4)) (252))) kj (congrArg (zav .u8) (QmH _ (Qbt hbc4_ 4)))) <| sg 1 kj <| Qai g2 _ (ints .u8 ((c4_).set 4 (nth c4_ 4/4*4))) 23 r2_8_26 rfl kj (Qa1 5 _ _ g2 4 23 _ _ r2_8_26 rfl kj kj kj (zas (show 4<32 by decide) hlc4_.symm)) fun W9 p9 r2_9=>?_
  obtain ⟨c5_,ec5_⟩:∃ z,z=(c4_).set 4 (nth c4_ 4/4*4):=⟨_,rfl⟩
  have hlc5_:c5_.length=32:=by rw [ec5_,za6,hlc4_]
  have hxc5_:=Qbt hbc4_ 4
  have hbc5_:Qaf c5_:=ec5_▸Qcp hbc4_ _ (by omega) (by omega)
  have r2_9_35:W9.heap[g2]? = some (.cells (ints .u8 (c5_)) 23):=QaG r2_9 (by rw [ec5_])
  refine Qaz <| hK33 _ _ <| sgA kj ?_
  show zal _ _ _ 3 _ _
  show zak _ _ (Exit.then (zal _ _ _ 2) _) _ _
  refine sgB kj <| sgT kj <| wp_seq_k fun K38 hK38=>wp_block <| sgC fun K39 hK39=>Qac (.int .i64 8) 23 rfl kj (QaB 214 _ _ .i64 .i64 ([4,8,12]) 1 3 3 8 rfl kj kj kj kj kj rfl (by decide) rfl) <| sg 1 kj <| sgN hK39 <| Qao <| sg 2 kj ?_
  refine Qac (.int .u8 (nth (c5_) 8)) 26 rfl kj (Qaj 5 _ g2 8 23 _ (.int .u8 (nth (c5_) 8)) _ r2_9_35 rfl kj (Qay _ _ _ (zas (by decide) hlc5_.symm)) kj) <| Qac (.int .u8 (nth c5_ 8/4*4)) 27 rfl kj (Qam (u:=.int .u8 (bits .and .u8 ((nth (c5_) 8)) (252))) kj (congrArg (zav .u8) (QmH _ (Qbt hbc5_ 8)))) <| sg 1 kj <| Qai g2 _ (ints .u8 ((c5_).set 8 (nth c5_ 8/4*4))) 23 r2_9_35 rfl kj (Qa1 5 _ _ g2 8 23 _ _ r2_9_35 rfl kj kj kj (zas (show 8<32 by decide) hlc5_.symm)) fun W10 p10 r2_10=>?_
  obtain ⟨c6_,ec6_⟩:∃ z,z=(c5_).set 8 (nth c5_ 8/4*4):=⟨_,rfl⟩
  have hlc6_:c6_.length=32:=by rw [ec6_,za6,hlc5_]
  have hxc6_:=Qbt hbc5_ 8
  have hbc6_:Qaf c6_:=ec6_▸Qcp hbc5_ _ (by omega) (by omega)
  have r2_10_40:W10.heap[g2]? = some (.cells (ints .u8 (c6_)) 23):=QaG r2_10 (by rw [ec6_])
  refine Qaz <| hK38 _ _ <| sgA kj ?_
  show zal _ _ _ 2 _ _
  show zak _ _ (Exit.then (zal _ _ _ 1) _) _ _
  refine sgB kj <| sgT kj <| wp_seq_k fun K43 hK43=>wp_block <| sgC fun K44 hK44=>Qac (.int .i64 12) 23 rfl kj (QaB 214 _ _ .i64 .i64 ([4,8,12]) 2 3 3 12 rfl kj kj kj kj kj rfl (by decide) rfl) <| sg 1 kj <| sgN hK44 <| Qao <| sg 2 kj ?_
  refine Qac (.int .u8 (nth (c6_) 12)) 26 rfl kj (Qaj 5 _ g2 12 23 _ (.int .u8 (nth (c6_) 12)) _ r2_10_40 rfl kj (Qay _ _ _ (zas (by decide) hlc6_.symm)) kj) <| Qac (.int .u8 (nth c6_ 12/4*4)) 27 rfl kj (Qam (u:=.int .u8 (bits .and .u8 ((nth (c6_) 12)) (252))) kj (congrArg (zav .u8) (QmH _ (Qbt hbc6_ 12)))) <| sg 1 kj <| Qai g2 _ (ints .u8 ((c6_).set 12 (nth c6_ 12/4*4))) 23 r2_10_40 rfl kj (Qa1 5 _ _ g2 12 23 _ _ r2_10_40 rfl kj kj kj (zas (show 12<32 by decide) hlc6_.symm)) fun W11 p11 r2_11=>?_
  obtain ⟨c7_,ec7_⟩:∃ z,z=(c6_).set 12 (nth c6_ 12/4*4):=⟨_,rfl⟩
  have hlc7_:c7_.length=32:=by rw [ec7_,za6,hlc6_]
  have hxc7_:=Qbt hbc6_ 12
  have hbc7_:Qaf c7_:=ec7_▸Qcp hbc6_ _ (by omega) (by omega)
  have r2_11_45:W11.heap[g2]? = some (.cells (ints .u8 (c7_)) 23):=QaG r2_11 (by rw [ec7_])
  refine Qaz <| hK43 _ _ <| sgA kj ?_
  show zal _ _ _ 1 _ _
  show zak _ _ (Exit.then (zal _ _ _ 0) _) _ _
  refine sgB kj <| wp_seq_k fun K47 hK47=>cond_false kj <| wp_exit <| hK29 _ _ <| wp_seq_k fun K48 hK48=>?_
  have hck:c7_=Qm9 key:=by unfold Qm9; rw [ec7_,ec6_,ec5_,ec4_,ec3_,ec2_,ec1_]
  have hro:lev ((c7_.drop 0).take (16-0))=rOf key:=by unfold rOf; rw [hck,Qj1 key hkl]
  refine Qba 3 [⟨none,[(1,none)]⟩,⟨none,[(30,some 0)]⟩,⟨none,[(3,none)]⟩] kj kj fun F hF=>Qa6 (Qar _) (.slice (some ⟨g2,0+0,none⟩) (16-0) (32-0)) kj kj (fun W=>(Qct 23 _ _ _ 0 16 32 g2 0 5 rfl kj kj kj rfl ⟨.i64,by kernel_rfl⟩ (by omega) (by omega) (by omega))) <| Qq0 (Qar _) (.agg (ints .u64 (nw3 (lev ((c7_.drop 0).take (16-0)))))) 145 #[.slice (some ⟨g2,0+0,none⟩) (16-0) (32-0)] kj kj (fun _=>kj) (fun W hR=>(Qln ((c7_.drop 0).take (16-0)) _ _ W (QlA (l:=0) (h:=16) hlc7_ (Qaa (Qaa r2_11_45 (Qah _)) hR) (by decide) (by decide) (by decide)) (by rw [zaq]; omega) (Qbq (Qcb hbc7_ 0) _))) ?_
  refine QcF (Qar _) (.agg (ints .u64 (nw3 (lev ((key.drop 16).take (32-16)))))) kj kj (fun W hR=>(Qae 212 _ g4 212 _ _ (Qaa (Qaa (zaV p11 (zaV p10 (zaV p9 (zaV p8 (zaV p7 (zaV p6 (zaV p5 r4_4 (Qap r2_2 l4)) (Qap r2_2 l4)) (Qap r2_2 l4)) (Qap r2_2 l4)) (Qap r2_2 l4)) (Qap r2_2 l4)) (Qap r2_2 l4)) (Qah _)) hR) rfl kj kj (isz (n:=3) kj (izT (Qa3 _))))) <| Qdr (hF _ fun W12 e12=>?_)
  simp only [zam,zan,zax,zao,zay,zaz,finE,up]
  clear hF
  have x12:=zaX (zaW p11 (zaW p10 (zaW p9 (zaW p8 (zaW p7 (zaW p6 (zaW p5 (zaW p4 (zaX x2 e3) (qT x2.size l4)) b2) b2) b2) b2) b2) b2) b2) e12
  refine sg 1 kj <| Qak (cat [ints .u64 (nw3 (lev ((c7_.drop 0).take (16-0)))),ints .u64 (nw3 (lev ((key.drop 16).take (32-16)))),ints .u64 (nw3 (0)),ints .u8 (zaN 17 0),#[.int .i64 0]]) 217 34 rfl kj kj fun g49 W13 l49 e13 r49_13=>sg 1 kj <| sgN hK48 <| wp_ret ?_
  repeat (first | with_reducible refine goR1 ?_ | with_reducible refine goR2 ?_)
  exact (show bodyPost _ _ _ .ret _ _ from ret1 (.pointer (some ⟨g49,0,none⟩)) rfl (Qa4 kj) ⟨_,rfl,(zaX x12 e13),g49,rfl,(qT x12.size l49),0,zaN 17 0,0,0,rfl,(by decide),(by have h9:=r49_13; rw [hro] at h9; exact h9),rfl,⟨by decide,by decide⟩,qZ ..,(fun x hx=>by rw [List.mem_replicate] at hx; omega),rfl⟩)
set_option maxRecDepth 100000 in
theorem endC (g : Nat) (r s:Int) (t:List Int) (w:World) (hr:0≤r∧r<21267647932558653966460912964485513216) (hs:0≤s∧s<340282366920938463463374607431768211456) (hM:Mk g r s t w) :
  Calls Tryz.prog 135 #[.pointer (some ⟨g,0,none⟩)] w (fun e W=>e=.returned (.agg (ints .u8 (tagV r s t)))∧ExtB g w W):=by
 obtain ⟨S,pl,q,m,hq,hm,hg,hSm,hS,hpl,hpb,hpt⟩:=hM
 refine enter 47 [(0,.pointer (some ⟨g,0,none⟩))] Tryz.func135 rfl rfl kj rfl <| sgC fun K2 hK2=>Qak (ints .u8 (zaN 16 0)) 162 2 rfl kj kj fun g3 W1 l3 e1 r3_1=>?_
 have x1:=zaZ (zaY g w) e1
 have b3:=qT (zaY g w).size l3
 refine sgN hK2 <| wp_seq_k fun K4 hK4=>sgC fun K5 hK5=>sg 3 kj ?_
 have r1_1:=(Qaa hg e1)
 refine Qac (.int .i64 ((m:Nat):Int)) 10 rfl kj (Qaj 3 _ g 26 217 _ (.int .i64 ((m:Nat):Int)) _ r1_1 rfl kj (Qaq [ints .u64 (nw3 r),ints .u64 (nw3 s),ints .u64 (nw3 (S)),ints .u8 (pl)] [#[.int .i64 ((m:Nat):Int)]] [] 26 (by rw [Qab,Qab,Qab,Qab]; simp only [qS,cat,(izT (Qa3 _)),(izT hpl)]; rfl) 0 _ rfl) kj) ?_
 refine sg 1 kj <| sgN hK5 <| QaC (t:=decide (((m:Nat):Int)>0)) kj (fun c6=>?_) (fun c6=>?_)
 ·skip
  have hm0:0<m:=by have:=of_decide_eq_true c6; omega
  refine Qao <| sg 1 kj <| Qaw (fun v W'=>v=.tuple #[]∧ExtB g W1 W'∧W'.heap[g]? = some (.cells (cat [ints .u64 (nw3 r),ints .u64 (nw3 s),ints .u64 (nw3 (Qgi r S (pl.take m))),ints .u8 (pl.set m 1),#[.int .i64 0]]) 217)) 146 #[.pointer (some ⟨g,0,none⟩)] 13 rfl kj kj ((QpU g r s S pl m _ hr hS hpl hpb (by omega) r1_1).mono fun e w' h=>⟨_,h.1,rfl,h.2⟩) fun v W2 h=>?_
  obtain ⟨rfl,q2,r1_2⟩:=h
  have hpl2:(pl.set m 1).length=17:=by rw [za6,hpl]
  have x2:=ExtB.trans x1 q2
  obtain ⟨SS,eSS⟩:∃ z,z=Qgi r S (pl.take m):=⟨_,rfl⟩
  have hSS:SS%PP=QeR r t:=by rw [eSS,hpt]; exact QqU hq (by omega) hm hSm
  have hSb:0≤SS∧SS<2041694201525630780780247644590609268736:=eSS▸QjB hS hr (Qbq hpb m) (by rw [zaq]; omega)
  rw [←eSS] at r1_2
  refine Qaz <| hK4 _ _ <| sgC fun K7 hK7=>sg 3 kj <| Qac (.agg (ints .u64 (nw3 (SS)))) 17 rfl kj (Qan 212 _ g 6 217 _ _ _ r1_2 rfl kj (Qaq [ints .u64 (nw3 r),ints .u64 (nw3 s)] [ints .u64 (nw3 (SS))] [ints .u8 (pl.set m 1),#[.int .i64 0]] 6 (by rw [Qab,Qab]; simp only [qS,cat,(izT (Qa3 _))]; rfl)) kj (isz (n:=3) kj (izT (Qa3 _)))) ?_
  refine Qak (ints .u64 ([0,0,0])) 212 3 rfl kj kj fun g8 W3 l8 e3 r8_3=>?_
  have x3:=zaZ x2 e3
  have b8:=qT x2.size l8
  refine Qai g8 _ (ints .u64 (nw3 (SS))) 212 r8_3 rfl kj (Qag 212 _ _ g8 212 _ _ r8_3 rfl kj kj (isz (n:=3) kj (izT (Qa3 _))) (eqsz (n:=3) kj (izT (Qa3 _))) (ints_one _ _)) fun W4 p4 r8_4=>?_
  have x4:=zbg x3 p4 b8
  refine sgN hK7 <| wp_seq_k fun K9 hK9=>sgC fun K10 hK10=>Qac (.agg (ints .u64 (nw3 (SS)))) 18 rfl kj (Qae 212 _ g8 212 _ _ r8_4 rfl kj kj (isz (n:=3) kj (izT (Qa3 _)))) <| sg 1 kj <| Qas (.agg (ints .u64 (nw3 (SS+5)))) 147 #[.agg (ints .u64 (nw3 (SS))),.agg (ints .u64 (nw3 5))] 20 rfl kj kj ((Qje SS 5 hSb.1 (by decide) (by omega) (by decide) (by omega)) _) fun W5 e5=>?_
  have x5:=zaZ x4 e5
  refine Qak (ints .u64 ([0,0,0])) 212 4 rfl kj kj fun g11 W6 l11 e6 r11_6=>?_
  have x6:=zaZ x5 e6
  refine Qai g11 _ (ints .u64 (nw3 (SS+5))) 212 r11_6 rfl kj (Qag 212 _ _ g11 212 _ _ r11_6 rfl kj kj (isz (n:=3) kj (izT (Qa3 _))) (eqsz (n:=3) kj (izT (Qa3 _))) (ints_one _ _)) fun W7 p7 r11_7=>?_
  have x7:=zbg x6 p7 (qT x5.size l11)
  refine sgN hK10 <| sgC fun K12 hK12=>sg 1 kj <| Qac (.int .u64 (nth (nw3 (SS+5)) 2)) 22 rfl kj (Qaj 115 _ g11 2 212 _ (.int .u64 (nth (nw3 (SS+5)) 2)) _ r11_7 rfl kj (Qay _ _ _ (zas (by decide) (Qa3 _).symm)) kj) <| Qac (.bool (decide (1361129467683753853853498429727072845824≤SS+5))) 23 rfl kj (Qam (u:=.bool (decide ((nth (nw3 (SS+5)) 2)≥4))) kj (congrArg zaJ (geq4 SS hSb.1 hSb.2))) <| sgN hK12 <| QaC (t:=decide (1361129467683753853853498429727072845824≤SS+5)) kj (fun c13=>?_) (fun c13=>?_)
  ·skip
   have hbig:1361129467683753853853498429727072845824≤SS+5:=of_decide_eq_true c13
   have hfin:by16 (SS+5+s)=by16 (QeR r t+s):=by
    have e:SS+5+s=(QeR r t+s)+1361129467683753853853498429727072845824:=by rw [←hSS]; unfold PP; omega
    rw [e,Qkn]
   refine Qao <| Qac (.agg (ints .u64 (nw3 (SS+5)))) 24 rfl kj (Qae 212 _ g11 212 _ _ r11_7 rfl kj kj (isz (n:=3) kj (izT (Qa3 _)))) ?_
   have r8_5:=(Qaa r8_4 e5)
   have r8_6:=(Qaa r8_5 e6)
   have r8_7:=(zaV p7 r8_6 (Qad r8_5 l11))
   refine Qai g8 _ (ints .u64 (nw3 (SS+5))) 212 r8_7 rfl kj (Qag 212 _ _ g8 212 _ _ r8_7 rfl kj kj (isz (n:=3) kj (izT (Qa3 _))) (eqsz (n:=3) (izT (Qa3 _)) (izT (Qa3 _))) (ints_one _ _)) fun W8 p8 r8_8=>?_
   have x8:=zbg x7 p8 b8
   refine Qaz <| hK9 _ _ <| wp_seq_k fun K14 hK14=>QaQ 6 [⟨none,[(3,none)]⟩,⟨none,[(0,none)]⟩,⟨none,[(26,some 1)]⟩,⟨none,[(27,some 2)]⟩,⟨none,[(28,some 3)]⟩,⟨none,[(25,some 0),(29,some 4)]⟩] kj kj fun F hF=>Qax (.agg (ints .u64 (nw3 (SS+5)))) kj kj (fun W hR=>(Qae 212 _ g8 212 _ _ (Qaa (Qaa r8_8 (Qah _)) hR) rfl kj kj (isz (n:=3) kj (izT (Qa3 _))))) <| Qal (.pointer (some ⟨g,0,none⟩)) kj kj (fun _=>kj) <| Qal (.pointer (some ⟨g,0,none⟩)) kj kj (fun _=>kj) <| Qal (.pointer (some ⟨g,3,none⟩)) kj kj (fun _=>kj) ?_
   have r1_3:=(Qaa r1_2 e3)
   have r1_4:=(zaV p4 r1_3 (Qad r1_2 l8))
   have r1_5:=(Qaa r1_4 e5)
   have r1_6:=(Qaa r1_5 e6)
   have r1_7:=(zaV p7 r1_6 (Qad r1_5 l11))
   refine Qax (.agg (ints .u64 (nw3 s))) kj kj (fun W hR=>(Qan 212 _ g 3 217 _ _ _ (Qaa (Qaa (zaV p8 r1_7 (Qad r1_2 l8)) (Qah _)) hR) rfl kj (Qaq [ints .u64 (nw3 r)] [ints .u64 (nw3 s)] [ints .u64 (nw3 (SS)),ints .u8 (pl.set m 1),#[.int .i64 0]] 3 (izT (Qa3 _))) kj (isz (n:=3) kj (izT (Qa3 _))))) <| QaI (.agg (ints .u64 (nw3 (SS+5+s)))) 147 #[.agg (ints .u64 (nw3 (SS+5))),.agg (ints .u64 (nw3 s))] kj kj (fun _=>kj) (fun W hR=>(Qje (SS+5) s (by omega) hs.1 (by omega) (by omega) (by omega)) W) <| QaH (hF _ kj fun W9 e9=>?_)
   simp only [ups,up,Kn.val,zax,zao,zay,zaz,zam,zan]
   clear hF
   have x9:=zaZ x8 e9
   have r8_9:=(Qaa r8_8 e9)
   refine Qai g8 _ (ints .u64 (nw3 (SS+5+s))) 212 r8_9 rfl kj (Qag 212 _ _ g8 212 _ _ r8_9 rfl kj kj (isz (n:=3) kj (izT (Qa3 _))) (eqsz (n:=3) (izT (Qa3 _)) (izT (Qa3 _))) (ints_one _ _)) fun W10 p10 r8_10=>?_
   have x10:=zbg x9 p10 b8
   refine sgN hK14 <| sgC fun K15 hK15=>Qak (ints .u8 (zaN 16 0)) 162 5 rfl kj kj fun g16 W11 l16 e11 r16_11=>?_
   have x11:=zaZ x10 e11
   refine sgN hK15 <| wp_seq_k fun K17 hK17=>sgB kj <| wp_block <| QaT (fun (s1:Nat)=>[(2,.pointer (some ⟨g3,0,none⟩)),(3,.pointer (some ⟨g8,0,none⟩)),(5,.pointer (some ⟨g16,0,none⟩)),(31,.int .i64 ((s1:Nat):Int))]) (fun (s1:Nat) W=>(s1≤16)∧(W.heap[g16]? = some (.cells (ints .u8 (Qcm (by16 (SS+5+s)) 16 s1)) 162))∧(Qa0 [g16] W11 W)∧(ExtB g w W)) (fun (s1:Nat)=>16-s1) 0 ⟨kj,kj,kj,kj,trivial⟩ ⟨(zap _),(QaG r16_11 (QcS _ 16)),(zbh [g16] W11),x11⟩ fun s1 X1 V1 hI1=>?_
   obtain ⟨i,hs1⟩:∃ z,z=s1:=⟨_,rfl⟩
   subst hs1
   obtain ⟨hi,q16_1,kk1,xx1⟩:=hI1
   replace hi:i≤16:=hi
   replace q16_1:V1.heap[g16]? = some (.cells (ints .u8 (Qcm (by16 (SS+5+s)) 16 i)) 162):=q16_1
   replace kk1:Qa0 [g16] W11 V1:=kk1
   replace xx1:ExtB g w V1:=xx1
   have q12:=kk1
   refine sgB kj <| wp_seq_k fun K20 hK20=>QaC (t:=decide (((i:Nat):Int)<16)) kj (fun c21=>?_) (fun c21=>?_)
   ·skip
    have hlt32:i<16:=by have:=of_decide_eq_true c21; omega
    refine wp_skip <| hK20 _ _ <| wp_seq_k fun K22 hK22=>wp_block <| sgB kj <| Qao <| sg 2 kj <| Qac (.int .i64 ((i/8:Nat):Int)) 36 rfl kj (Qam (u:=.int .i64 (zat.wrap (zau (((i:Nat):Int)) (8)))) kj (congrArg (zav .i64) (Qes _ 8 (by omega)))) <| Qac (.pointer (some ⟨g8,i/8,none⟩)) 37 rfl kj (Qa8 _ _ _ .i64 (i/8) _ 3 115 rfl kj kj kj kj (by omega)) ?_
    have r8_11:=(Qaa r8_10 e11)
    refine Qac (.int .u64 (nth (nw3 (SS+5+s)) (i/8))) 38 rfl kj (Qaj 115 _ g8 (i/8) 212 _ (.int .u64 (nth (nw3 (SS+5+s)) (i/8))) _ (zbi q12 r8_11 (Qbd (Qad r8_10 l16) Qbr)) rfl kj (Qay _ _ _ (zas (by omega) (Qa3 _).symm)) kj) <| sg 1 kj <| Qac (.int .i64 ((i%8:Nat):Int)) 40 rfl kj (Qam (u:=.int .i64 (zaw (((i:Nat):Int)) (8))) kj (congrArg (zav .i64) (QcR _ 8))) <| Qac (.int .i64 ((8*(i%8):Nat):Int)) 41 rfl kj (Qam (u:=.int .i64 (zat.wrap (8*((i%8:Nat):Int)))) kj (congrArg (zav .i64) (i64n _ _ (by omega) (by omega)))) <| Qac (.int .u64 (nth (nw3 (SS+5+s)) (i/8)/p256 (i%8))) 42 rfl kj (Qbu .shr _ _ _ _ .u64 .i64 _ _ _ rfl kj kj (QdS _ _ _ _ _ _ (by omega) (shr8 _ (i%8) _ rfl (by omega)))) <| Qac (.int .u8 (nth (by16 (SS+5+s)) i)) 43 rfl kj (Qam (u:=.int .u8 (zaM.wrap (nth (nw3 (SS+5+s)) (i/8)/p256 (i%8)))) kj (congrArg (zav .u8) (out_byte _ i hlt32))) <| Qac (.pointer (some ⟨g16,i,none⟩)) 44 rfl kj (Qa8 _ _ _ .i64 (i) _ 16 5 rfl kj kj kj kj (by omega)) <| Qai g16 _ (ints .u8 ((Qcm (by16 (SS+5+s)) 16 i).set i (nth (by16 (SS+5+s)) i))) 162 q16_1 rfl kj (Qa1 5 _ _ g16 i 162 _ _ q16_1 rfl kj kj kj (zas (by omega) (Qd4 _ 16 _ (Qbh _) hi).symm)) fun W13 p13 r16_13=>?_
    have x13:=zbg xx1 p13 (qT x10.size l16)
    refine Qaz <| hK22 _ _ <| Qao <| Qac (.int .i64 ((i+1:Nat):Int)) 45 rfl kj (Qam (u:=.int .i64 (zat.wrap (((i:Nat):Int)+1))) kj (congrArg (zav .i64) (i64n _ _ (by omega) (by omega)))) <| sg 1 kj <| Qaz ?_
    repeat (first | with_reducible refine goX1 ?_ | with_reducible refine goX2 ?_ | with_reducible refine goX3 ?_)
    exact QaL (i+1) ⟨kj,kj,kj,kj,trivial⟩ ⟨(show i+1≤16 by omega),(QaG r16_13 (QcT _ 16 i (Qbh _) hlt32)),(zbj q12 p13 (.inl (by simp))),x13⟩ (by show 16-(i+1)<16-i; omega)
   ·skip
    have heq32:i=16:=by have:=of_decide_eq_false c21; omega
    subst heq32
    have r16_12_24:V1.heap[g16]? = some (.cells (ints .u8 (by16 (SS+5+s))) 162):=QaG q16_1 (QcE _ 16 (Qbh _))
    refine wp_exit <| hK17 _ _ <| sgC fun K25 hK25=>Qac (.agg (ints .u8 (by16 (SS+5+s)))) 46 rfl kj (Qae 162 _ g16 162 _ _ r16_12_24 rfl kj kj (isz (n:=16) kj (izT (Qbh _)))) ?_
    have r3_2:=(zbb q2 r3_1 (Qap hg l3))
    have r3_3:=(Qaa r3_2 e3)
    have r3_4:=(zaV p4 r3_3 (Qad r3_2 l8))
    have r3_5:=(Qaa r3_4 e5)
    have r3_6:=(Qaa r3_5 e6)
    have r3_7:=(zaV p7 r3_6 (Qad r3_5 l11))
    have r3_8:=(zaV p8 r3_7 (Qad r3_2 l8))
    have r3_9:=(Qaa r3_8 e9)
    have r3_10:=(zaV p10 r3_9 (Qad r3_2 l8))
    have r3_11:=(Qaa r3_10 e11)
    have r3_12:=(zbi q12 r3_11 (Qbd (Qad r3_10 l16) Qbr))
    refine Qai g3 _ (ints .u8 (by16 (SS+5+s))) 162 r3_12 rfl kj (Qag 162 _ _ g3 162 _ _ r3_12 rfl kj kj (isz (n:=16) kj (izT (Qbh _))) (eqsz (n:=16) (izT (qZ (n:=16))) (izT (Qbh _))) (ints_one _ _)) fun W13 p13 r3_13=>?_
    have x13:=zbg xx1 p13 b3
    refine sgN hK25 <| wp_ret ?_
    repeat (first | with_reducible refine goR1 ?_ | with_reducible refine goR2 ?_)
    exact (show bodyPost _ _ _ .ret _ _ from ret1 (.agg (ints .u8 (by16 (SS+5+s)))) rfl (QaU g3 162 _ r3_13 kj kj (isz (n:=16) kj (izT (Qbh _)))) ⟨by unfold tagV; rw [hfin],x13⟩)
  ·skip
   have hbig:¬ 1361129467683753853853498429727072845824≤SS+5:=of_decide_eq_false c13
   have hfin:by16 (SS+s)=by16 (QeR r t+s):=by
    have e:SS+s=QeR r t+s:=by rw [←hSS]; unfold PP; omega
    rw [e]
   refine wp_skip <| hK9 _ _ <| wp_seq_k fun K26 hK26=>QaQ 6 [⟨none,[(3,none)]⟩,⟨none,[(0,none)]⟩,⟨none,[(26,some 1)]⟩,⟨none,[(27,some 2)]⟩,⟨none,[(28,some 3)]⟩,⟨none,[(25,some 0),(29,some 4)]⟩] kj kj fun F hF=>?_
   have r8_5:=(Qaa r8_4 e5)
   have r8_6:=(Qaa r8_5 e6)
   have r8_7:=(zaV p7 r8_6 (Qad r8_5 l11))
   refine Qax (.agg (ints .u64 (nw3 (SS)))) kj kj (fun W hR=>(Qae 212 _ g8 212 _ _ (Qaa (Qaa r8_7 (Qah _)) hR) rfl kj kj (isz (n:=3) kj (izT (Qa3 _))))) <| Qal (.pointer (some ⟨g,0,none⟩)) kj kj (fun _=>kj) <| Qal (.pointer (some ⟨g,0,none⟩)) kj kj (fun _=>kj) <| Qal (.pointer (some ⟨g,3,none⟩)) kj kj (fun _=>kj) ?_
   have r1_3:=(Qaa r1_2 e3)
   have r1_4:=(zaV p4 r1_3 (Qad r1_2 l8))
   have r1_5:=(Qaa r1_4 e5)
   have r1_6:=(Qaa r1_5 e6)
   have r1_7:=(zaV p7 r1_6 (Qad r1_5 l11))
   refine Qax (.agg (ints .u64 (nw3 s))) kj kj (fun W hR=>(Qan 212 _ g 3 217 _ _ _ (Qaa (Qaa r1_7 (Qah _)) hR) rfl kj (Qaq [ints .u64 (nw3 r)] [ints .u64 (nw3 s)] [ints .u64 (nw3 (SS)),ints .u8 (pl.set m 1),#[.int .i64 0]] 3 (izT (Qa3 _))) kj (isz (n:=3) kj (izT (Qa3 _))))) <| QaI (.agg (ints .u64 (nw3 (SS+s)))) 147 #[.agg (ints .u64 (nw3 (SS))),.agg (ints .u64 (nw3 s))] kj kj (fun _=>kj) (fun W hR=>(Qje (SS) s (by omega) hs.1 (by omega) (by omega) (by omega)) W) <| QaH (hF _ kj fun W8 e8=>?_)
   simp only [ups,up,Kn.val,zax,zao,zay,zaz,zam,zan]
   clear hF
   have x8:=zaZ x7 e8
   have r8_8:=(Qaa r8_7 e8)
   refine Qai g8 _ (ints .u64 (nw3 (SS+s))) 212 r8_8 rfl kj (Qag 212 _ _ g8 212 _ _ r8_8 rfl kj kj (isz (n:=3) kj (izT (Qa3 _))) (eqsz (n:=3) (izT (Qa3 _)) (izT (Qa3 _))) (ints_one _ _)) fun W9 p9 r8_9=>?_
   have x9:=zbg x8 p9 b8
   refine sgN hK26 <| sgC fun K27 hK27=>Qak (ints .u8 (zaN 16 0)) 162 5 rfl kj kj fun g28 W10 l28 e10 r28_10=>?_
   have x10:=zaZ x9 e10
   refine sgN hK27 <| wp_seq_k fun K29 hK29=>sgB kj <| wp_block <| QaT (fun (s2:Nat)=>[(2,.pointer (some ⟨g3,0,none⟩)),(3,.pointer (some ⟨g8,0,none⟩)),(5,.pointer (some ⟨g28,0,none⟩)),(31,.int .i64 ((s2:Nat):Int))]) (fun (s2:Nat) W=>(s2≤16)∧(W.heap[g28]? = some (.cells (ints .u8 (Qcm (by16 (SS+s)) 16 s2)) 162))∧(Qa0 [g28] W10 W)∧(ExtB g w W)) (fun (s2:Nat)=>16-s2) 0 ⟨kj,kj,kj,kj,trivial⟩ ⟨(zap _),(QaG r28_10 (QcS _ 16)),(zbh [g28] W10),x10⟩ fun s2 X2 V2 hI2=>?_
   obtain ⟨i,hs2⟩:∃ z,z=s2:=⟨_,rfl⟩
   subst hs2
   obtain ⟨hi,q28_2,kk2,xx2⟩:=hI2
   replace hi:i≤16:=hi
   replace q28_2:V2.heap[g28]? = some (.cells (ints .u8 (Qcm (by16 (SS+s)) 16 i)) 162):=q28_2
   replace kk2:Qa0 [g28] W10 V2:=kk2
   replace xx2:ExtB g w V2:=xx2
   have q11:=kk2
   refine sgB kj <| wp_seq_k fun K32 hK32=>QaC (t:=decide (((i:Nat):Int)<16)) kj (fun c33=>?_) (fun c33=>?_)
   ·skip
    have hlt32:i<16:=by have:=of_decide_eq_true c33; omega
    refine wp_skip <| hK32 _ _ <| wp_seq_k fun K34 hK34=>wp_block <| sgB kj <| Qao <| sg 2 kj <| Qac (.int .i64 ((i/8:Nat):Int)) 36 rfl kj (Qam (u:=.int .i64 (zat.wrap (zau (((i:Nat):Int)) (8)))) kj (congrArg (zav .i64) (Qes _ 8 (by omega)))) <| Qac (.pointer (some ⟨g8,i/8,none⟩)) 37 rfl kj (Qa8 _ _ _ .i64 (i/8) _ 3 115 rfl kj kj kj kj (by omega)) ?_
    have r8_10:=(Qaa r8_9 e10)
    have r8_11:=(zbi q11 r8_10 (Qbd (Qad r8_9 l28) Qbr))
    refine Qac (.int .u64 (nth (nw3 (SS+s)) (i/8))) 38 rfl kj (Qaj 115 _ g8 (i/8) 212 _ (.int .u64 (nth (nw3 (SS+s)) (i/8))) _ r8_11 rfl kj (Qay _ _ _ (zas (by omega) (Qa3 _).symm)) kj) <| sg 1 kj <| Qac (.int .i64 ((i%8:Nat):Int)) 40 rfl kj (Qam (u:=.int .i64 (zaw (((i:Nat):Int)) (8))) kj (congrArg (zav .i64) (QcR _ 8))) <| Qac (.int .i64 ((8*(i%8):Nat):Int)) 41 rfl kj (Qam (u:=.int .i64 (zat.wrap (8*((i%8:Nat):Int)))) kj (congrArg (zav .i64) (i64n _ _ (by omega) (by omega)))) <| Qac (.int .u64 (nth (nw3 (SS+s)) (i/8)/p256 (i%8))) 42 rfl kj (Qbu .shr _ _ _ _ .u64 .i64 _ _ _ rfl kj kj (QdS _ _ _ _ _ _ (by omega) (shr8 _ (i%8) _ rfl (by omega)))) <| Qac (.int .u8 (nth (by16 (SS+s)) i)) 43 rfl kj (Qam (u:=.int .u8 (zaM.wrap (nth (nw3 (SS+s)) (i/8)/p256 (i%8)))) kj (congrArg (zav .u8) (out_byte _ i hlt32))) <| Qac (.pointer (some ⟨g28,i,none⟩)) 44 rfl kj (Qa8 _ _ _ .i64 (i) _ 16 5 rfl kj kj kj kj (by omega)) <| Qai g28 _ (ints .u8 ((Qcm (by16 (SS+s)) 16 i).set i (nth (by16 (SS+s)) i))) 162 q28_2 rfl kj (Qa1 5 _ _ g28 i 162 _ _ q28_2 rfl kj kj kj (zas (by omega) (Qd4 _ 16 _ (Qbh _) hi).symm)) fun W12 p12 r28_12=>?_
    have x12:=zbg xx2 p12 (qT x9.size l28)
    refine Qaz <| hK34 _ _ <| Qao <| Qac (.int .i64 ((i+1:Nat):Int)) 45 rfl kj (Qam (u:=.int .i64 (zat.wrap (((i:Nat):Int)+1))) kj (congrArg (zav .i64) (i64n _ _ (by omega) (by omega)))) <| sg 1 kj <| Qaz ?_
    repeat (first | with_reducible refine goX1 ?_ | with_reducible refine goX2 ?_ | with_reducible refine goX3 ?_)
    exact QaL (i+1) ⟨kj,kj,kj,kj,trivial⟩ ⟨(show i+1≤16 by omega),(QaG r28_12 (QcT _ 16 i (Qbh _) hlt32)),(zbj q11 p12 (.inl (by simp))),x12⟩ (by show 16-(i+1)<16-i; omega)
   ·skip
    have heq32:i=16:=by have:=of_decide_eq_false c33; omega
    subst heq32
    have r28_11_36:V2.heap[g28]? = some (.cells (ints .u8 (by16 (SS+s))) 162):=QaG q28_2 (QcE _ 16 (Qbh _))
    refine wp_exit <| hK29 _ _ <| sgC fun K37 hK37=>Qac (.agg (ints .u8 (by16 (SS+s)))) 46 rfl kj (Qae 162 _ g28 162 _ _ r28_11_36 rfl kj kj (isz (n:=16) kj (izT (Qbh _)))) ?_
    have r3_2:=(zbb q2 r3_1 (Qap hg l3))
    have r3_3:=(Qaa r3_2 e3)
    have r3_4:=(zaV p4 r3_3 (Qad r3_2 l8))
    have r3_5:=(Qaa r3_4 e5)
    have r3_6:=(Qaa r3_5 e6)
    have r3_7:=(zaV p7 r3_6 (Qad r3_5 l11))
    have r3_8:=(Qaa r3_7 e8)
    have r3_9:=(zaV p9 r3_8 (Qad r3_2 l8))
    have r3_10:=(Qaa r3_9 e10)
    have r3_11:=(zbi q11 r3_10 (Qbd (Qad r3_9 l28) Qbr))
    refine Qai g3 _ (ints .u8 (by16 (SS+s))) 162 r3_11 rfl kj (Qag 162 _ _ g3 162 _ _ r3_11 rfl kj kj (isz (n:=16) kj (izT (Qbh _))) (eqsz (n:=16) (izT (qZ (n:=16))) (izT (Qbh _))) (ints_one _ _)) fun W12 p12 r3_12=>?_
    have x12:=zbg xx2 p12 b3
    refine sgN hK37 <| wp_ret ?_
    repeat (first | with_reducible refine goR1 ?_ | with_reducible refine goR2 ?_)
    exact (show bodyPost _ _ _ .ret _ _ from ret1 (.agg (ints .u8 (by16 (SS+s)))) rfl (QaU g3 162 _ r3_12 kj kj (isz (n:=16) kj (izT (Qbh _)))) ⟨by unfold tagV; rw [hfin],x12⟩)
 ·skip
  have hm0:m=0:=by have:=of_decide_eq_false c6; omega
  obtain ⟨SS,eSS⟩:∃ z,z=S:=⟨_,rfl⟩
  have hSS:SS%PP=QeR r t:=by rw [eSS,QoW (hm0▸hq)]; exact hSm
  have hSb:0≤SS∧SS<2041694201525630780780247644590609268736:=eSS▸hS
  have r1_1_n:=r1_1
  rw [←eSS] at r1_1_n
  refine wp_skip <| hK4 _ _ <| sgC fun K38 hK38=>sg 3 kj <| Qac (.agg (ints .u64 (nw3 (SS)))) 17 rfl kj (Qan 212 _ g 6 217 _ _ _ r1_1_n rfl kj (Qaq [ints .u64 (nw3 r),ints .u64 (nw3 s)] [ints .u64 (nw3 (SS))] [ints .u8 (pl),#[.int .i64 ((m:Nat):Int)]] 6 (by rw [Qab,Qab]; simp only [qS,cat,(izT (Qa3 _))]; rfl)) kj (isz (n:=3) kj (izT (Qa3 _)))) ?_
  refine Qak (ints .u64 ([0,0,0])) 212 3 rfl kj kj fun g39 W2 l39 e2 r39_2=>?_
  have x2:=zaZ x1 e2
  have b39:=qT x1.size l39
  refine Qai g39 _ (ints .u64 (nw3 (SS))) 212 r39_2 rfl kj (Qag 212 _ _ g39 212 _ _ r39_2 rfl kj kj (isz (n:=3) kj (izT (Qa3 _))) (eqsz (n:=3) kj (izT (Qa3 _))) (ints_one _ _)) fun W3 p3 r39_3=>?_
  have x3:=zbg x2 p3 b39
  refine sgN hK38 <| wp_seq_k fun K40 hK40=>sgC fun K41 hK41=>Qac (.agg (ints .u64 (nw3 (SS)))) 18 rfl kj (Qae 212 _ g39 212 _ _ r39_3 rfl kj kj (isz (n:=3) kj (izT (Qa3 _)))) <| sg 1 kj <| Qas (.agg (ints .u64 (nw3 (SS+5)))) 147 #[.agg (ints .u64 (nw3 (SS))),.agg (ints .u64 (nw3 5))] 20 rfl kj kj ((Qje SS 5 hSb.1 (by decide) (by omega) (by decide) (by omega)) _) fun W4 e4=>?_
  have x4:=zaZ x3 e4
  refine Qak (ints .u64 ([0,0,0])) 212 4 rfl kj kj fun g42 W5 l42 e5 r42_5=>?_
  have x5:=zaZ x4 e5
  refine Qai g42 _ (ints .u64 (nw3 (SS+5))) 212 r42_5 rfl kj (Qag 212 _ _ g42 212 _ _ r42_5 rfl kj kj (isz (n:=3) kj (izT (Qa3 _))) (eqsz (n:=3) kj (izT (Qa3 _))) (ints_one _ _)) fun W6 p6 r42_6=>?_
  have x6:=zbg x5 p6 (qT x4.size l42)
  refine sgN hK41 <| sgC fun K43 hK43=>sg 1 kj <| Qac (.int .u64 (nth (nw3 (SS+5)) 2)) 22 rfl kj (Qaj 115 _ g42 2 212 _ (.int .u64 (nth (nw3 (SS+5)) 2)) _ r42_6 rfl kj (Qay _ _ _ (zas (by decide) (Qa3 _).symm)) kj) <| Qac (.bool (decide (1361129467683753853853498429727072845824≤SS+5))) 23 rfl kj (Qam (u:=.bool (decide ((nth (nw3 (SS+5)) 2)≥4))) kj (congrArg zaJ (geq4 SS hSb.1 hSb.2))) <| sgN hK43 <| QaC (t:=decide (1361129467683753853853498429727072845824≤SS+5)) kj (fun c44=>?_) (fun c44=>?_)
  ·skip
   have hbig:1361129467683753853853498429727072845824≤SS+5:=of_decide_eq_true c44
   have hfin:by16 (SS+5+s)=by16 (QeR r t+s):=by
    have e:SS+5+s=(QeR r t+s)+1361129467683753853853498429727072845824:=by rw [←hSS]; unfold PP; omega
    rw [e,Qkn]
   refine Qao <| Qac (.agg (ints .u64 (nw3 (SS+5)))) 24 rfl kj (Qae 212 _ g42 212 _ _ r42_6 rfl kj kj (isz (n:=3) kj (izT (Qa3 _)))) ?_
   have r39_4:=(Qaa r39_3 e4)
   have r39_5:=(Qaa r39_4 e5)
   have r39_6:=(zaV p6 r39_5 (Qad r39_4 l42))
   refine Qai g39 _ (ints .u64 (nw3 (SS+5))) 212 r39_6 rfl kj (Qag 212 _ _ g39 212 _ _ r39_6 rfl kj kj (isz (n:=3) kj (izT (Qa3 _))) (eqsz (n:=3) (izT (Qa3 _)) (izT (Qa3 _))) (ints_one _ _)) fun W7 p7 r39_7=>?_
   have x7:=zbg x6 p7 b39
   refine Qaz <| hK40 _ _ <| wp_seq_k fun K45 hK45=>QaQ 6 [⟨none,[(3,none)]⟩,⟨none,[(0,none)]⟩,⟨none,[(26,some 1)]⟩,⟨none,[(27,some 2)]⟩,⟨none,[(28,some 3)]⟩,⟨none,[(25,some 0),(29,some 4)]⟩] kj kj fun F hF=>Qax (.agg (ints .u64 (nw3 (SS+5)))) kj kj (fun W hR=>(Qae 212 _ g39 212 _ _ (Qaa (Qaa r39_7 (Qah _)) hR) rfl kj kj (isz (n:=3) kj (izT (Qa3 _))))) <| Qal (.pointer (some ⟨g,0,none⟩)) kj kj (fun _=>kj) <| Qal (.pointer (some ⟨g,0,none⟩)) kj kj (fun _=>kj) <| Qal (.pointer (some ⟨g,3,none⟩)) kj kj (fun _=>kj) ?_
   have r1_2:=(Qaa r1_1_n e2)
   have r1_3:=(zaV p3 r1_2 (Qad r1_1_n l39))
   have r1_4:=(Qaa r1_3 e4)
   have r1_5:=(Qaa r1_4 e5)
   have r1_6:=(zaV p6 r1_5 (Qad r1_4 l42))
   have r1_7:=(zaV p7 r1_6 (Qad r1_1_n l39))
   refine Qax (.agg (ints .u64 (nw3 s))) kj kj (fun W hR=>(Qan 212 _ g 3 217 _ _ _ (Qaa (Qaa r1_7 (Qah _)) hR) rfl kj (Qaq [ints .u64 (nw3 r)] [ints .u64 (nw3 s)] [ints .u64 (nw3 (SS)),ints .u8 (pl),#[.int .i64 ((m:Nat):Int)]] 3 (izT (Qa3 _))) kj (isz (n:=3) kj (izT (Qa3 _))))) <| QaI (.agg (ints .u64 (nw3 (SS+5+s)))) 147 #[.agg (ints .u64 (nw3 (SS+5))),.agg (ints .u64 (nw3 s))] kj kj (fun _=>kj) (fun W hR=>(Qje (SS+5) s (by omega) hs.1 (by omega) (by omega) (by omega)) W) <| QaH (hF _ kj fun W8 e8=>?_)
   simp only [ups,up,Kn.val,zax,zao,zay,zaz,zam,zan]
   clear hF
   have x8:=zaZ x7 e8
   have r39_8:=(Qaa r39_7 e8)
   refine Qai g39 _ (ints .u64 (nw3 (SS+5+s))) 212 r39_8 rfl kj (Qag 212 _ _ g39 212 _ _ r39_8 rfl kj kj (isz (n:=3) kj (izT (Qa3 _))) (eqsz (n:=3) (izT (Qa3 _)) (izT (Qa3 _))) (ints_one _ _)) fun W9 p9 r39_9=>?_
   have x9:=zbg x8 p9 b39
   refine sgN hK45 <| sgC fun K46 hK46=>Qak (ints .u8 (zaN 16 0)) 162 5 rfl kj kj fun g47 W10 l47 e10 r47_10=>?_
   have x10:=zaZ x9 e10
   refine sgN hK46 <| wp_seq_k fun K48 hK48=>sgB kj <| wp_block <| QaT (fun (s3:Nat)=>[(2,.pointer (some ⟨g3,0,none⟩)),(3,.pointer (some ⟨g39,0,none⟩)),(5,.pointer (some ⟨g47,0,none⟩)),(31,.int .i64 ((s3:Nat):Int))]) (fun (s3:Nat) W=>(s3≤16)∧(W.heap[g47]? = some (.cells (ints .u8 (Qcm (by16 (SS+5+s)) 16 s3)) 162))∧(Qa0 [g47] W10 W)∧(ExtB g w W)) (fun (s3:Nat)=>16-s3) 0 ⟨kj,kj,kj,kj,trivial⟩ ⟨(zap _),(QaG r47_10 (QcS _ 16)),(zbh [g47] W10),x10⟩ fun s3 X3 V3 hI3=>?_
   obtain ⟨i,hs3⟩:∃ z,z=s3:=⟨_,rfl⟩
   subst hs3
   obtain ⟨hi,q47_3,kk3,xx3⟩:=hI3
   replace hi:i≤16:=hi
   replace q47_3:V3.heap[g47]? = some (.cells (ints .u8 (Qcm (by16 (SS+5+s)) 16 i)) 162):=q47_3
   replace kk3:Qa0 [g47] W10 V3:=kk3
   replace xx3:ExtB g w V3:=xx3
   have q11:=kk3
   refine sgB kj <| wp_seq_k fun K51 hK51=>QaC (t:=decide (((i:Nat):Int)<16)) kj (fun c52=>?_) (fun c52=>?_)
   ·skip
    have hlt32:i<16:=by have:=of_decide_eq_true c52; omega
    refine wp_skip <| hK51 _ _ <| wp_seq_k fun K53 hK53=>wp_block <| sgB kj <| Qao <| sg 2 kj <| Qac (.int .i64 ((i/8:Nat):Int)) 36 rfl kj (Qam (u:=.int .i64 (zat.wrap (zau (((i:Nat):Int)) (8)))) kj (congrArg (zav .i64) (Qes _ 8 (by omega)))) <| Qac (.pointer (some ⟨g39,i/8,none⟩)) 37 rfl kj (Qa8 _ _ _ .i64 (i/8) _ 3 115 rfl kj kj kj kj (by omega)) ?_
    have r39_10:=(Qaa r39_9 e10)
    refine Qac (.int .u64 (nth (nw3 (SS+5+s)) (i/8))) 38 rfl kj (Qaj 115 _ g39 (i/8) 212 _ (.int .u64 (nth (nw3 (SS+5+s)) (i/8))) _ (zbi q11 r39_10 (Qbd (Qad r39_9 l47) Qbr)) rfl kj (Qay _ _ _ (zas (by omega) (Qa3 _).symm)) kj) <| sg 1 kj <| Qac (.int .i64 ((i%8:Nat):Int)) 40 rfl kj (Qam (u:=.int .i64 (zaw (((i:Nat):Int)) (8))) kj (congrArg (zav .i64) (QcR _ 8))) <| Qac (.int .i64 ((8*(i%8):Nat):Int)) 41 rfl kj (Qam (u:=.int .i64 (zat.wrap (8*((i%8:Nat):Int)))) kj (congrArg (zav .i64) (i64n _ _ (by omega) (by omega)))) <| Qac (.int .u64 (nth (nw3 (SS+5+s)) (i/8)/p256 (i%8))) 42 rfl kj (Qbu .shr _ _ _ _ .u64 .i64 _ _ _ rfl kj kj (QdS _ _ _ _ _ _ (by omega) (shr8 _ (i%8) _ rfl (by omega)))) <| Qac (.int .u8 (nth (by16 (SS+5+s)) i)) 43 rfl kj (Qam (u:=.int .u8 (zaM.wrap (nth (nw3 (SS+5+s)) (i/8)/p256 (i%8)))) kj (congrArg (zav .u8) (out_byte _ i hlt32))) <| Qac (.pointer (some ⟨g47,i,none⟩)) 44 rfl kj (Qa8 _ _ _ .i64 (i) _ 16 5 rfl kj kj kj kj (by omega)) <| Qai g47 _ (ints .u8 ((Qcm (by16 (SS+5+s)) 16 i).set i (nth (by16 (SS+5+s)) i))) 162 q47_3 rfl kj (Qa1 5 _ _ g47 i 162 _ _ q47_3 rfl kj kj kj (zas (by omega) (Qd4 _ 16 _ (Qbh _) hi).symm)) fun W12 p12 r47_12=>?_
    have x12:=zbg xx3 p12 (qT x9.size l47)
    refine Qaz <| hK53 _ _ <| Qao <| Qac (.int .i64 ((i+1:Nat):Int)) 45 rfl kj (Qam (u:=.int .i64 (zat.wrap (((i:Nat):Int)+1))) kj (congrArg (zav .i64) (i64n _ _ (by omega) (by omega)))) <| sg 1 kj <| Qaz ?_
    repeat (first | with_reducible refine goX1 ?_ | with_reducible refine goX2 ?_ | with_reducible refine goX3 ?_)
    exact QaL (i+1) ⟨kj,kj,kj,kj,trivial⟩ ⟨(show i+1≤16 by omega),(QaG r47_12 (QcT _ 16 i (Qbh _) hlt32)),(zbj q11 p12 (.inl (by simp))),x12⟩ (by show 16-(i+1)<16-i; omega)
   ·skip
    have heq32:i=16:=by have:=of_decide_eq_false c52; omega
    subst heq32
    have r47_11_55:V3.heap[g47]? = some (.cells (ints .u8 (by16 (SS+5+s))) 162):=QaG q47_3 (QcE _ 16 (Qbh _))
    refine wp_exit <| hK48 _ _ <| sgC fun K56 hK56=>Qac (.agg (ints .u8 (by16 (SS+5+s)))) 46 rfl kj (Qae 162 _ g47 162 _ _ r47_11_55 rfl kj kj (isz (n:=16) kj (izT (Qbh _)))) ?_
    have r3_2:=(Qaa r3_1 e2)
    have r3_3:=(zaV p3 r3_2 (Qad r3_1 l39))
    have r3_4:=(Qaa r3_3 e4)
    have r3_5:=(Qaa r3_4 e5)
    have r3_6:=(zaV p6 r3_5 (Qad r3_4 l42))
    have r3_7:=(zaV p7 r3_6 (Qad r3_1 l39))
    have r3_8:=(Qaa r3_7 e8)
    have r3_9:=(zaV p9 r3_8 (Qad r3_1 l39))
    have r3_10:=(Qaa r3_9 e10)
    have r3_11:=(zbi q11 r3_10 (Qbd (Qad r3_9 l47) Qbr))
    refine Qai g3 _ (ints .u8 (by16 (SS+5+s))) 162 r3_11 rfl kj (Qag 162 _ _ g3 162 _ _ r3_11 rfl kj kj (isz (n:=16) kj (izT (Qbh _))) (eqsz (n:=16) (izT (qZ (n:=16))) (izT (Qbh _))) (ints_one _ _)) fun W12 p12 r3_12=>?_
    have x12:=zbg xx3 p12 b3
    refine sgN hK56 <| wp_ret ?_
    repeat (first | with_reducible refine goR1 ?_ | with_reducible refine goR2 ?_)
    exact (show bodyPost _ _ _ .ret _ _ from ret1 (.agg (ints .u8 (by16 (SS+5+s)))) rfl (QaU g3 162 _ r3_12 kj kj (isz (n:=16) kj (izT (Qbh _)))) ⟨by unfold tagV; rw [hfin],x12⟩)
  ·skip
   have hbig:¬ 1361129467683753853853498429727072845824≤SS+5:=of_decide_eq_false c44
   have hfin:by16 (SS+s)=by16 (QeR r t+s):=by
    have e:SS+s=QeR r t+s:=by rw [←hSS]; unfold PP; omega
    rw [e]
   refine wp_skip <| hK40 _ _ <| wp_seq_k fun K57 hK57=>QaQ 6 [⟨none,[(3,none)]⟩,⟨none,[(0,none)]⟩,⟨none,[(26,some 1)]⟩,⟨none,[(27,some 2)]⟩,⟨none,[(28,some 3)]⟩,⟨none,[(25,some 0),(29,some 4)]⟩] kj kj fun F hF=>?_
   have r39_4:=(Qaa r39_3 e4)
   have r39_5:=(Qaa r39_4 e5)
   have r39_6:=(zaV p6 r39_5 (Qad r39_4 l42))
   refine Qax (.agg (ints .u64 (nw3 (SS)))) kj kj (fun W hR=>(Qae 212 _ g39 212 _ _ (Qaa (Qaa r39_6 (Qah _)) hR) rfl kj kj (isz (n:=3) kj (izT (Qa3 _))))) <| Qal (.pointer (some ⟨g,0,none⟩)) kj kj (fun _=>kj) <| Qal (.pointer (some ⟨g,0,none⟩)) kj kj (fun _=>kj) <| Qal (.pointer (some ⟨g,3,none⟩)) kj kj (fun _=>kj) ?_
   have r1_2:=(Qaa r1_1_n e2)
   have r1_3:=(zaV p3 r1_2 (Qad r1_1_n l39))
   have r1_4:=(Qaa r1_3 e4)
   have r1_5:=(Qaa r1_4 e5)
   have r1_6:=(zaV p6 r1_5 (Qad r1_4 l42))
   refine Qax (.agg (ints .u64 (nw3 s))) kj kj (fun W hR=>(Qan 212 _ g 3 217 _ _ _ (Qaa (Qaa r1_6 (Qah _)) hR) rfl kj (Qaq [ints .u64 (nw3 r)] [ints .u64 (nw3 s)] [ints .u64 (nw3 (SS)),ints .u8 (pl),#[.int .i64 ((m:Nat):Int)]] 3 (izT (Qa3 _))) kj (isz (n:=3) kj (izT (Qa3 _))))) <| QaI (.agg (ints .u64 (nw3 (SS+s)))) 147 #[.agg (ints .u64 (nw3 (SS))),.agg (ints .u64 (nw3 s))] kj kj (fun _=>kj) (fun W hR=>(Qje (SS) s (by omega) hs.1 (by omega) (by omega) (by omega)) W) <| QaH (hF _ kj fun W7 e7=>?_)
   simp only [ups,up,Kn.val,zax,zao,zay,zaz,zam,zan]
   clear hF
   have x7:=zaZ x6 e7
   have r39_7:=(Qaa r39_6 e7)
   refine Qai g39 _ (ints .u64 (nw3 (SS+s))) 212 r39_7 rfl kj (Qag 212 _ _ g39 212 _ _ r39_7 rfl kj kj (isz (n:=3) kj (izT (Qa3 _))) (eqsz (n:=3) (izT (Qa3 _)) (izT (Qa3 _))) (ints_one _ _)) fun W8 p8 r39_8=>?_
   have x8:=zbg x7 p8 b39
   refine sgN hK57 <| sgC fun K58 hK58=>Qak (ints .u8 (zaN 16 0)) 162 5 rfl kj kj fun g59 W9 l59 e9 r59_9=>?_
   have x9:=zaZ x8 e9
   refine sgN hK58 <| wp_seq_k fun K60 hK60=>sgB kj <| wp_block <| QaT (fun (s4:Nat)=>[(2,.pointer (some ⟨g3,0,none⟩)),(3,.pointer (some ⟨g39,0,none⟩)),(5,.pointer (some ⟨g59,0,none⟩)),(31,.int .i64 ((s4:Nat):Int))]) (fun (s4:Nat) W=>(s4≤16)∧(W.heap[g59]? = some (.cells (ints .u8 (Qcm (by16 (SS+s)) 16 s4)) 162))∧(Qa0 [g59] W9 W)∧(ExtB g w W)) (fun (s4:Nat)=>16-s4) 0 ⟨kj,kj,kj,kj,trivial⟩ ⟨(zap _),(QaG r59_9 (QcS _ 16)),(zbh [g59] W9),x9⟩ fun s4 X4 V4 hI4=>?_
   obtain ⟨i,hs4⟩:∃ z,z=s4:=⟨_,rfl⟩
   subst hs4
   obtain ⟨hi,q59_4,kk4,xx4⟩:=hI4
   replace hi:i≤16:=hi
   replace q59_4:V4.heap[g59]? = some (.cells (ints .u8 (Qcm (by16 (SS+s)) 16 i)) 162):=q59_4
   replace kk4:Qa0 [g59] W9 V4:=kk4
   replace xx4:ExtB g w V4:=xx4
   have q10:=kk4
   refine sgB kj <| wp_seq_k fun K63 hK63=>QaC (t:=decide (((i:Nat):Int)<16)) kj (fun c64=>?_) (fun c64=>?_)
   ·skip
    have hlt32:i<16:=by have:=of_decide_eq_true c64; omega
    refine wp_skip <| hK63 _ _ <| wp_seq_k fun K65 hK65=>wp_block <| sgB kj <| Qao <| sg 2 kj <| Qac (.int .i64 ((i/8:Nat):Int)) 36 rfl kj (Qam (u:=.int .i64 (zat.wrap (zau (((i:Nat):Int)) (8)))) kj (congrArg (zav .i64) (Qes _ 8 (by omega)))) <| Qac (.pointer (some ⟨g39,i/8,none⟩)) 37 rfl kj (Qa8 _ _ _ .i64 (i/8) _ 3 115 rfl kj kj kj kj (by omega)) ?_
    have r39_9:=(Qaa r39_8 e9)
    have r39_10:=(zbi q10 r39_9 (Qbd (Qad r39_8 l59) Qbr))
    refine Qac (.int .u64 (nth (nw3 (SS+s)) (i/8))) 38 rfl kj (Qaj 115 _ g39 (i/8) 212 _ (.int .u64 (nth (nw3 (SS+s)) (i/8))) _ r39_10 rfl kj (Qay _ _ _ (zas (by omega) (Qa3 _).symm)) kj) <| sg 1 kj <| Qac (.int .i64 ((i%8:Nat):Int)) 40 rfl kj (Qam (u:=.int .i64 (zaw (((i:Nat):Int)) (8))) kj (congrArg (zav .i64) (QcR _ 8))) <| Qac (.int .i64 ((8*(i%8):Nat):Int)) 41 rfl kj (Qam (u:=.int .i64 (zat.wrap (8*((i%8:Nat):Int)))) kj (congrArg (zav .i64) (i64n _ _ (by omega) (by omega)))) <| Qac (.int .u64 (nth (nw3 (SS+s)) (i/8)/p256 (i%8))) 42 rfl kj (Qbu .shr _ _ _ _ .u64 .i64 _ _ _ rfl kj kj (QdS _ _ _ _ _ _ (by omega) (shr8 _ (i%8) _ rfl (by omega)))) <| Qac (.int .u8 (nth (by16 (SS+s)) i)) 43 rfl kj (Qam (u:=.int .u8 (zaM.wrap (nth (nw3 (SS+s)) (i/8)/p256 (i%8)))) kj (congrArg (zav .u8) (out_byte _ i hlt32))) <| Qac (.pointer (some ⟨g59,i,none⟩)) 44 rfl kj (Qa8 _ _ _ .i64 (i) _ 16 5 rfl kj kj kj kj (by omega)) <| Qai g59 _ (ints .u8 ((Qcm (by16 (SS+s)) 16 i).set i (nth (by16 (SS+s)) i))) 162 q59_4 rfl kj (Qa1 5 _ _ g59 i 162 _ _ q59_4 rfl kj kj kj (zas (by omega) (Qd4 _ 16 _ (Qbh _) hi).symm)) fun W11 p11 r59_11=>?_
    have x11:=zbg xx4 p11 (qT x8.size l59)
    refine Qaz <| hK65 _ _ <| Qao <| Qac (.int .i64 ((i+1:Nat):Int)) 45 rfl kj (Qam (u:=.int .i64 (zat.wrap (((i:Nat):Int)+1))) kj (congrArg (zav .i64) (i64n _ _ (by omega) (by omega)))) <| sg 1 kj <| Qaz ?_
    repeat (first | with_reducible refine goX1 ?_ | with_reducible refine goX2 ?_ | with_reducible refine goX3 ?_)
    exact QaL (i+1) ⟨kj,kj,kj,kj,trivial⟩ ⟨(show i+1≤16 by omega),(QaG r59_11 (QcT _ 16 i (Qbh _) hlt32)),(zbj q10 p11 (.inl (by simp))),x11⟩ (by show 16-(i+1)<16-i; omega)
   ·skip
    have heq32:i=16:=by have:=of_decide_eq_false c64; omega
    subst heq32
    have r59_10_67:V4.heap[g59]? = some (.cells (ints .u8 (by16 (SS+s))) 162):=QaG q59_4 (QcE _ 16 (Qbh _))
    refine wp_exit <| hK60 _ _ <| sgC fun K68 hK68=>Qac (.agg (ints .u8 (by16 (SS+s)))) 46 rfl kj (Qae 162 _ g59 162 _ _ r59_10_67 rfl kj kj (isz (n:=16) kj (izT (Qbh _)))) ?_
    have r3_2:=(Qaa r3_1 e2)
    have r3_3:=(zaV p3 r3_2 (Qad r3_1 l39))
    have r3_4:=(Qaa r3_3 e4)
    have r3_5:=(Qaa r3_4 e5)
    have r3_6:=(zaV p6 r3_5 (Qad r3_4 l42))
    have r3_7:=(Qaa r3_6 e7)
    have r3_8:=(zaV p8 r3_7 (Qad r3_1 l39))
    have r3_9:=(Qaa r3_8 e9)
    have r3_10:=(zbi q10 r3_9 (Qbd (Qad r3_8 l59) Qbr))
    refine Qai g3 _ (ints .u8 (by16 (SS+s))) 162 r3_10 rfl kj (Qag 162 _ _ g3 162 _ _ r3_10 rfl kj kj (isz (n:=16) kj (izT (Qbh _))) (eqsz (n:=16) (izT (qZ (n:=16))) (izT (Qbh _))) (ints_one _ _)) fun W11 p11 r3_11=>?_
    have x11:=zbg xx4 p11 b3
    refine sgN hK68 <| wp_ret ?_
    repeat (first | with_reducible refine goR1 ?_ | with_reducible refine goR2 ?_)
    exact (show bodyPost _ _ _ .ret _ _ from ret1 (.agg (ints .u8 (by16 (SS+s)))) rfl (QaU g3 162 _ r3_11 kj kj (isz (n:=16) kj (izT (Qbh _)))) ⟨by unfold tagV; rw [hfin],x11⟩)
end Ae
end
section
namespace Ae
open Go Go.RowKit
open Rely Auto Own Sha
open Sha Cha
def by8 (n : Int):List Int:=(List.range 8).map fun i=>n/p256 i%256
theorem QdJ (n : Int):(by8 n).length=8:=by simp [by8]
theorem QiE (n : Int):Qaf (by8 n):=fun x hx=>by
  unfold by8 at hx
  obtain ⟨i,-,rfl⟩:=List.mem_map.1 hx
  omega
theorem Qp8 (n : Int) (i:Nat) (h:i<8):nth (by8 n) i=n/p256 i%256:=by
  unfold by8 nth
  rw [List.getD_eq_getElem?_getD,List.getElem?_map,List.getElem?_range h]
  rfl
theorem Qjs (n : Int) (i:Nat) (h:i<8):zaM.wrap (n/p256 i)=nth (by8 n) i:=by
  have h3:∀ z:Int,zaM.wrap z=z%256:=fun _=>rfl
  rw [h3,Qp8 n i h]
theorem or8 (x y:Int):bits .or .u8 x y=(((zaO 8 x)|||(zaO 8 y)).toNat:Int):=by
  have h:bits .or .u8 x y=zaM.wrap (((zaO 8 x)|||(zaO 8 y)).toNat:Int):=rfl
  have h3:∀ z:Int,zaM.wrap z=z%256:=fun _=>rfl
  rw [h,h3]
  have:=((zaO 8 x)|||(zaO 8 y)).isLt
  omega
theorem Qqo (x y:Int):0≤bits .or .u8 x y∧bits .or .u8 x y<256:=by
  rw [or8]
  have:=((zaO 8 x)|||(zaO 8 y)).isLt
  omega
theorem Qo7 (x y:Int):0≤bits .xor .u8 x y∧bits .xor .u8 x y<256:=by
  rw [QmC]
  have:=((zaO 8 x)^^^(zaO 8 y)).isLt
  omega
theorem Qnt (x y:Int) (hx:0≤x∧x<256) (hy:0≤y∧y<256):bits .or .u8 x y=0↔x=0∧y=0:=by
  rw [or8,BitVec.toNat_or,zaP,zaP]
  have h:=@Nat.or_eq_zero_iff (x%((2^8:Nat):Int)).toNat (y%((2^8:Nat):Int)).toNat
  omega
theorem QhN (y : Int):bits .xor .u8 y y=0:=by rw [QmC,BitVec.xor_self]; rfl
theorem Qlh (x y:Int) (hx:0≤x∧x≤255) (hy:0≤y∧y≤255):bits .xor .u8 x y=0↔x=y:=by
  constructor
  · intro h
    have h1:=Qf9 x y hx.1 hx.2
    have h2:=Qf9 y y hy.1 hy.2
    rw [QhN] at h2
    rw [h] at h1
    exact h1.symm.trans h2
  · intro h; subst h; exact QhN x
theorem QoF (xs ys:List Int) (i:Nat) (h1:i<xs.length) (h2:i<ys.length):xs.take (i+1)=ys.take (i+1)↔xs.take i=ys.take i∧nth xs i=nth ys i:=by
  rw [Qgj xs i h1,Qgj ys i h2]
  constructor
  · intro h
    have h3:=List.append_inj h (by rw [zaq,zaq]; omega)
    exact ⟨h3.1,by simpa using h3.2⟩
  · rintro ⟨a,b⟩; rw [a,b]
theorem Ql1 {xs ys:List Int} {i:Nat} {d:Int} (h1:i<xs.length) (h2:i<ys.length) (hx:Qaf xs) (hy:Qaf ys) (hd:0≤d∧d<256) (h:d=0↔xs.take i=ys.take i) :
    bits .or .u8 d (bits .xor .u8 (nth xs i) (nth ys i))=0↔xs.take (i+1)=ys.take (i+1):=by
  have bx:=Qbt hx i
  have by_:=Qbt hy i
  rw [Qnt _ _ hd (Qo7 _ _),Qlh _ _ (by omega) (by omega),QoF xs ys i h1 h2,h]
theorem QpA (d : Int) (p:Prop) [Decidable p] (h:d=0↔p):(d==0)=decide p:=by
  by_cases e:d=0
  · rw [decide_eq_true (h.1 e),e]; rfl
  · rw [decide_eq_false (fun hp=>e (h.2 hp))]; exact beq_eq_false_iff_ne.2 e
theorem Qjt (n : Nat) (w:World):Calls Tryz.prog 117 #[.int .i64 ((n:Nat):Int)] w (QcL w (OwnN .u8 5 w.heap.size (by8 (n:Int)))):=by
 refine enter 21 [(0,.int .i64 ((n:Nat):Int))] Tryz.func117 rfl rfl kj rfl <| sgB kj <| sgC fun K2 hK2=>QbM (ints .u8 (zaN 8 0)) 5 8 5 rfl kj (Qfa 24 _ _ .i64 .i64 8 5 rfl kj kj kj (.inr kj) (by decide)) fun g3 W1 l3 e1 r3_1=>?_
 have b3:=qT (zaT w).size l3
 refine sg 1 kj <| sgN hK2 <| wp_seq_k fun K4 hK4=>sgB kj <| wp_block <| QaT (fun (s1:Nat)=>[(0,.int .i64 ((n:Nat):Int)),(2,.slice none 0 0),(3,.slice (some ⟨g3,0,none⟩) 8 8),(6,.slice (some ⟨g3,0,none⟩) 8 8),(7,.int .i64 8),(8,.int .i64 ((s1:Nat):Int))]) (fun (s1:Nat) W=>(s1≤8)∧(W.heap[g3]? = some (.cells (ints .u8 (Qcm (by8 (n:Int)) 8 s1)) 5))∧(Qa0 [g3] W1 W)∧(Ext w W)) (fun (s1:Nat)=>8-s1) 0 ⟨kj,kj,kj,kj,kj,kj,trivial⟩ ⟨(zap _),(QaG r3_1 (QcS _ 8)),(zbh [g3] W1),(zaX (zaT w) e1)⟩ fun s1 X1 V1 hI1=>?_
 obtain ⟨i,hs1⟩:∃ z,z=s1:=⟨_,rfl⟩
 subst hs1
 obtain ⟨hi,q3_1,kk1,xx1⟩:=hI1
 replace hi:i≤8:=hi
 replace q3_1:V1.heap[g3]? = some (.cells (ints .u8 (Qcm (by8 (n:Int)) 8 i)) 5):=q3_1
 replace kk1:Qa0 [g3] W1 V1:=kk1
 replace xx1:Ext w V1:=xx1
 have q2:=kk1
 refine sgB kj <| wp_seq_k fun K7 hK7=>QaC (t:=decide (((i:Nat):Int)<8)) kj (fun c8=>?_) (fun c8=>?_)
 ·skip
  have hlt9:i<8:=by have:=of_decide_eq_true c8; omega
  refine wp_skip <| hK7 _ _ <| wp_seq_k fun K9 hK9=>wp_block <| sgB kj <| Qao <| sg 4 kj <| Qac (.int .i64 ((8*i:Nat):Int)) 15 rfl kj (Qam (u:=.int .i64 (zat.wrap (8*((i:Nat):Int)))) kj (congrArg (zav .i64) (i64n _ _ (by omega) (by omega)))) <| Qac (.int .i64 ((n:Int)/p256 i)) 16 rfl kj (Qbu .shr _ _ _ _ .i64 .i64 _ _ _ rfl kj kj (QdS _ _ _ _ _ _ (by omega) (shr8 _ i _ rfl (by omega)))) <| Qac (.int .u8 (nth (by8 (n:Int)) i)) 17 rfl kj (Qam (u:=.int .u8 (zaM.wrap ((n:Int)/p256 i))) kj (congrArg (zav .u8) (Qjs _ i hlt9))) ?_
  refine Qac (.pointer (some ⟨g3,i,none⟩)) 18 rfl kj (QbN 24 _ _ .i64 (i) g3 8 8 5 rfl kj kj kj kj (by omega)) <| Qai g3 _ (ints .u8 ((Qcm (by8 (n:Int)) 8 i).set i (nth (by8 (n:Int)) i))) 5 q3_1 rfl kj (Qa1 5 _ _ g3 i 5 _ _ q3_1 rfl kj kj kj (zas (by omega) (Qd4 _ 8 _ (QdJ _) hi).symm)) fun W3 p3 r3_3=>Qaz <| hK9 _ _ <| Qao <| Qac (.int .i64 ((i+1:Nat):Int)) 19 rfl kj (Qam (u:=.int .i64 (zat.wrap (((i:Nat):Int)+1))) kj (congrArg (zav .i64) (i64n _ _ (by omega) (by omega)))) <| sg 1 kj <| Qaz ?_
  repeat (first | with_reducible refine goX1 ?_ | with_reducible refine goX2 ?_ | with_reducible refine goX3 ?_)
  exact QaL (i+1) ⟨kj,kj,kj,kj,kj,kj,trivial⟩ ⟨(show i+1≤8 by omega),(QaG r3_3 (QcT _ 8 i (QdJ _) hlt9)),(zbj q2 p3 (.inl (by simp))),(zaW p3 xx1 b3)⟩ (by show 8-(i+1)<8-i; omega)
 ·skip
  have heq9:i=8:=by have:=of_decide_eq_false c8; omega
  subst heq9
  have r3_2_11:V1.heap[g3]? = some (.cells (ints .u8 (by8 (n:Int))) 5):=QaG q3_1 (QcE _ 8 (QdJ _))
  refine wp_exit <| hK4 _ _ <| sgB kj <| wp_ret ?_
  repeat (first | with_reducible refine goR1 ?_ | with_reducible refine goR2 ?_)
  exact (show bodyPost _ _ _ .ret _ _ from ret1 (.slice (some ⟨g3,0,none⟩) 8 8) rfl (Qa4 kj) ⟨_,rfl,xx1,QdD (xs:=by8 (n:Int)) (QdJ _) b3 r3_2_11 (by decide)⟩)
theorem QpI (xs : List Int) (v:Value) (B:Nat) (w:World) (h:RdK .u8 B xs v w):Calls Tryz.prog 122 #[v] w (QcL w (OwnN .u8 5 w.heap.size (zaN ((16-xs.length%16)%16) 0))):=by
  obtain ⟨a_x,c_x,rfl,-⟩:=id h
  refine enter 9 [(0,.slice a_x xs.length c_x)] Tryz.func122 rfl rfl kj rfl <| sgB kj <| sgC fun K2 hK2=>sg 2 kj <| Qac (.int .i64 ((xs.length%16:Nat):Int)) 5 rfl kj (Qam (u:=.int .i64 (zaw (((xs.length:Nat):Int)) (16))) kj (congrArg (zav .i64) (QcR _ 16))) <| Qac (.int .i64 ((16-(xs.length%16):Nat):Int)) 6 rfl kj (Qam (u:=.int .i64 (zat.wrap (16-((xs.length%16:Nat):Int)))) kj (congrArg (zav .i64) (i64n _ _ (by omega) (by omega)))) <| Qac (.int .i64 (((16-(xs.length%16))%16:Nat):Int)) 7 rfl kj (Qam (u:=.int .i64 (zaw (((16-(xs.length%16):Nat):Int)) (16))) kj (congrArg (zav .i64) (QcR _ 16))) <| QbM (ints .u8 (zaN ((16-(xs.length%16))%16) 0)) 5 ((16-(xs.length%16))%16) 8 rfl kj (Qfa 24 _ _ .i64 .i64 ((16-(xs.length%16))%16) 5 rfl kj kj kj (.inr kj) (by omega)) fun g3 W1 l3 e1 r3_1=>sg 1 kj <| sgN hK2 ?_
  refine wp_ret ?_
  repeat (first | with_reducible refine goR1 ?_ | with_reducible refine goR2 ?_)
  exact (show bodyPost _ _ _ .ret _ _ from ret1 (.slice (some ⟨g3,0,none⟩) ((16-(xs.length%16))%16) ((16-(xs.length%16))%16)) rfl (Qa4 kj) ⟨_,rfl,(zaX (zaT w) e1),QdD (qZ ..) (qT (zaT w).size l3) r3_1 (by rw [maxLen]; omega)⟩)
theorem QpY (xs ys:List Int) (v v2:Value) (B B2:Nat) (w:World) (hx:RdK .u8 B xs v w) (hy:RdK .u8 B2 ys v2 w) (hxb:Qaf xs) (hyb:Qaf ys) (hl:ys.length=xs.length) (hxl:xs.length≤2000000):Calls Tryz.prog 106 #[v,v2] w (Ret w (.bool (decide (xs=ys)))):=by
 obtain ⟨a_x,c_x,rfl,-⟩:=id hx
 obtain ⟨a_y,c_y,rfl,-⟩:=id hy
 refine enter 26 [(0,.slice a_x xs.length c_x),(1,.slice a_y ys.length c_y)] Tryz.func106 rfl rfl kj rfl <| sgB kj <| sgB kj <| wp_seq_k fun K3 hK3=>sgB kj <| wp_block <| QaT (fun (s1:Nat×Int)=>[(0,.slice a_x xs.length c_x),(1,.slice a_y ys.length c_y),(4,.bool false),(5,.int .u8 (s1.2)),(7,.slice a_x xs.length c_x),(8,.int .i64 ((xs.length:Nat):Int)),(9,.int .i64 ((s1.1:Nat):Int))]) (fun (s1:Nat×Int) W=>(s1.1≤xs.length)∧(0≤s1.2∧s1.2<256)∧(s1.2=0↔xs.take s1.1=ys.take s1.1)∧(Ext w W)∧(Ext w W)) (fun (s1:Nat×Int)=>xs.length-s1.1) (0,0) ⟨kj,kj,kj,kj,kj,kj,kj,trivial⟩ ⟨(zap _),⟨by decide,by decide⟩,(by simp),(zaT w),(zaT w)⟩ fun s1 X1 V1 hI1=>?_
 obtain ⟨i,d⟩:=s1
 obtain ⟨hi,hdb,hd,kk1,xx1⟩:=hI1
 replace hi:i≤xs.length:=hi
 replace hdb:0≤d∧d<256:=hdb
 replace hd:d=0↔xs.take i=ys.take i:=hd
 replace kk1:Ext w V1:=kk1
 replace xx1:Ext w V1:=xx1
 have e1:=kk1
 refine sgB kj <| wp_seq_k fun K6 hK6=>QaC (t:=decide (((i:Nat):Int)<((xs.length:Nat):Int))) kj (fun c7=>?_) (fun c7=>?_)
 ·skip
  have hlt:i<xs.length:=by have:=of_decide_eq_true c7; omega
  obtain ⟨grx8,orx8,harx8,-,hlrx8,hcrx8⟩:=QfD (zbe hx xx1) (by omega)
  obtain ⟨gry9,ory9,hary9,-,hlry9,hcry9⟩:=QfD (zbe hy xx1) (by omega)
  refine wp_skip <| hK6 _ _ <| wp_seq_k fun K10 hK10=>wp_block <| sgB kj <| Qba 10 [⟨none,[(5,none)]⟩,⟨none,[(0,none)]⟩,⟨none,[(6,none)]⟩,⟨none,[(13,some 1),(14,some 2)]⟩,⟨none,[(15,some 3)]⟩,⟨none,[(1,none)]⟩,⟨none,[(6,none)]⟩,⟨none,[(17,some 5),(18,some 6)]⟩,⟨none,[(19,some 7)]⟩,⟨none,[(16,some 4),(20,some 8)]⟩] kj kj fun F hF=>Qa6 (Qar _) (.int .u8 (d)) kj kj (fun _=>kj) <| Qa6 (Qar _) (.slice a_x xs.length c_x) kj kj (fun _=>kj) <| Qa6 (Qar _) (.int .i64 ((i:Nat):Int)) kj kj (fun _=>kj) <| Qa6 (Qar _) (.pointer (some ⟨grx8,orx8+i,none⟩)) kj kj (fun W=>(Qe6 24 _ _ .i64 i grx8 orx8 xs.length c_x 5 a_x _ harx8 rfl rfl kj kj kj kj (zas (show i<(xs).length by omega) (rfl:(xs).length=(xs).length).symm))) ?_
  refine QcF (Qar _) (.int .u8 (nth (xs) (i))) kj kj (fun W hR=>(Qb5 5 _ _ (.int .u8 (nth (xs) (i))) ((Below.cell (zaU (Qah _) hR) hlrx8).trans (hcrx8 i (zas (show i<(xs).length by omega) (rfl:(xs).length=(xs).length).symm))) rfl kj kj)) <| Qa6 (Qar _) (.slice a_y ys.length c_y) kj kj (fun _=>kj) <| Qa6 (Qar _) (.int .i64 ((i:Nat):Int)) kj kj (fun _=>kj) <| Qa6 (Qar _) (.pointer (some ⟨gry9,ory9+i,none⟩)) kj kj (fun W=>(Qe6 24 _ _ .i64 i gry9 ory9 ys.length c_y 5 a_y _ hary9 rfl rfl kj kj kj kj (zas (show i<(ys).length by omega) (rfl:(ys).length=(ys).length).symm))) <| QcF (Qar _) (.int .u8 (nth (ys) (i))) kj kj (fun W hR=>(Qb5 5 _ _ (.int .u8 (nth (ys) (i))) ((Below.cell (zaU (Qah _) hR) hlry9).trans (hcry9 i (zas (show i<(ys).length by omega) (rfl:(ys).length=(ys).length).symm))) rfl kj kj)) <| Qa6 (Qar _) (.int .u8 (bits .xor .u8 ((nth (xs) (i))) ((nth (ys) (i))))) kj kj (fun _=>kj) <| Qdr (hF _ fun W2 e2=>?_)
  simp only [zam,zan,zax,zao,zay,zaz,finE,up]
  clear hF
  refine sg 2 kj <| Qaz <| hK10 _ _ <| Qao <| Qac (.int .i64 ((i+1:Nat):Int)) 23 rfl kj (Qam (u:=.int .i64 (zat.wrap (((i:Nat):Int)+1))) kj (congrArg (zav .i64) (i64n _ _ (by omega) (by omega)))) <| sg 1 kj <| Qaz ?_
  repeat (first | with_reducible refine goX1 ?_ | with_reducible refine goX2 ?_ | with_reducible refine goX3 ?_)
  exact QaL ((i+1),(bits .or .u8 (d) ((bits .xor .u8 ((nth (xs) (i))) ((nth (ys) (i))))))) ⟨kj,kj,kj,kj,kj,kj,kj,trivial⟩ ⟨(by omega),(Qqo _ _),(Ql1 hlt (by omega) hxb hyb hdb hd),(zaU e1 e2),(zaX xx1 e2)⟩ (by show xs.length-(i+1)<xs.length-i; omega)
 ·skip
  have hie:i=xs.length:=by have:=of_decide_eq_false c7; omega
  have hall:d=0↔xs=ys:=by rw [hie,za0,zaB (by omega)] at hd; exact hd
  refine wp_exit <| hK3 _ _ <| sgC fun K12 hK12=>sg 1 kj <| Qac (.bool (decide (xs=ys))) 25 rfl kj (Qam (u:=.bool ((d==0))) kj (congrArg zaJ (QpA _ _ hall))) <| sg 1 kj <| sgN hK12 <| wp_ret ?_
  repeat (first | with_reducible refine goR1 ?_ | with_reducible refine goR2 ?_)
  exact (show bodyPost _ _ _ .ret _ _ from ret1 (.bool (decide (xs=ys))) rfl (Qa4 kj) ⟨rfl,xx1⟩)
set_option maxRecDepth 100000 in
theorem Qqr (key y0 y1 y2 y3 y4:List Int) (v0 v1 v2 v3 v4:Value) (gp B:Nat) (w:World) (hkl:key.length=32) (hkb:Qaf key) (hB:B≤w.heap.size) (hy0:RdK .u8 B y0 v0 w) (hb0:Qaf y0) (hl0:y0.length≤3000000) (hy1:RdK .u8 B y1 v1 w) (hb1:Qaf y1) (hl1:y1.length≤3000000) (hy2:RdK .u8 B y2 v2 w) (hb2:Qaf y2) (hl2:y2.length≤3000000) (hy3:RdK .u8 B y3 v3 w) (hb3:Qaf y3) (hl3:y3.length≤3000000) (hy4:RdK .u8 B y4 v4 w) (hb4:Qaf y4) (hl4:y4.length≤3000000) (hp0:w.heap[gp]? = some (.cells #[v0,v1,v2,v3,v4] 24)) :
    Calls Tryz.prog 121 #[.agg (ints .u8 key),.slice (some ⟨gp,0,none⟩) 5 5] w (Ret w (.agg (ints .u8 (tagV (rOf key) (sOf key) (y0++y1++y2++y3++y4))))):=by
  obtain ⟨a_y0,c_y0,rfl,-⟩:=id hy0
  obtain ⟨a_y1,c_y1,rfl,-⟩:=id hy1
  obtain ⟨a_y2,c_y2,rfl,-⟩:=id hy2
  obtain ⟨a_y3,c_y3,rfl,-⟩:=id hy3
  obtain ⟨a_y4,c_y4,rfl,-⟩:=id hy4
  have hp:w.heap[gp]? = some (.cells (cat [#[.slice a_y0 y0.length c_y0],#[.slice a_y1 y1.length c_y1],#[.slice a_y2 y2.length c_y2],#[.slice a_y3 y3.length c_y3],#[.slice a_y4 y4.length c_y4]]) 24):=hp0
  refine enter 22 [(0,.agg (ints .u8 (key))),(1,.slice (some ⟨gp,0,none⟩) 5 5)] Tryz.func121 rfl rfl kj rfl <| sgC fun K2 hK2=>Qak (ints .u8 (key)) 23 2 rfl kj kj fun g3 W1 l3 e1 r3_1=>?_
  have x1:=zaX (zaT w) e1
  have b3:=qT (zaT w).size l3
  refine Qak (ints .u8 (zaN 16 0)) 162 4 rfl kj kj fun g4 W2 l4 e2 r4_2=>?_
  have x2:=zaX x1 e2
  refine sgN hK2 <| sgC fun K5 hK5=>Qac (.agg (ints .u8 (key))) 8 rfl kj (Qae 23 _ g3 23 _ _ (Qaa r3_1 e2) rfl kj kj (isz (n:=32) kj (izT hkl))) <| Qaw (fun v W'=>(fun v W=>∃ g,v=.pointer (some ⟨g,0,none⟩)∧W2.heap.size≤g∧Mk g (rOf key) (sOf key) [] W) v W'∧Ext W2 W') 133 #[.agg (ints .u8 (key))] 9 rfl kj kj ((QkI key _ hkl hkb).mono (by rintro e w' ⟨v,rfl,e1,hv⟩; exact ⟨v,rfl,hv,e1⟩)) fun vv6 W3 hh6=>?_
  obtain ⟨hv6,e3⟩:=hh6
  have x3:=zaX x2 e3
  obtain ⟨gm,rfl,lm,hM0⟩:=hv6
  have hgm:w.heap.size≤gm:=qT x2.size lm
  refine sg 1 kj <| sgN hK5 <| wp_seq_k fun K8 hK8=>sgB kj <| wp_block <| wp_loop_rounds 6 ?_
  show zak _ _ (Exit.then (zal _ _ _ 5) _) _ _
  refine sgB kj <| sgT kj <| wp_seq_k fun K12 hK12=>wp_block <| sgC fun K13 hK13=>Qac (.pointer (some ⟨gp,0,none⟩)) 14 rfl kj (QbN 93 _ _ .i64 (0) gp 5 5 24 rfl kj kj kj kj (by decide)) ?_
  have r1_2:=(Qaa (Qaa hp e1) e2)
  have r1_3:=(Qaa r1_2 e3)
  refine Qac (.slice a_y0 y0.length c_y0) 15 rfl kj (Qaj 24 _ gp 0 24 _ (.slice a_y0 y0.length c_y0) _ r1_3 rfl kj kj kj) <| sg 1 kj <| sgN hK13 <| Qao <| sg 2 kj <| Qaw (fun v W'=>v=.tuple #[]∧ExtB gm W3 W'∧Mk gm (rOf key) (sOf key) (y0) W') 134 #[.pointer (some ⟨gm,0,none⟩),.slice a_y0 y0.length c_y0] 18 rfl kj kj ((addC gm (rOf key) (sOf key) ([]) y0 _ B _ (QgK key hkl hkb) (qT hB hgm) (zbe hy0 x3) hb0 hl0 hM0).mono fun e w' h=>⟨_,h.1,rfl,h.2⟩) fun v W4 h4=>?_
  obtain ⟨rfl,q4,M4⟩:=h4
  have x4:=zbc x3 q4 hgm
  refine Qaz <| hK12 _ _ <| sgA kj ?_
  show zal _ _ _ 5 _ _
  show zak _ _ (Exit.then (zal _ _ _ 4) _) _ _
  refine sgB kj <| sgT kj <| wp_seq_k fun K16 hK16=>wp_block <| sgC fun K17 hK17=>Qac (.pointer (some ⟨gp,1,none⟩)) 14 rfl kj (QbN 93 _ _ .i64 (1) gp 5 5 24 rfl kj kj kj kj (by decide)) ?_
  have r1_4:=(zbb q4 r1_3 (Qad r1_2 lm))
  refine Qac (.slice a_y1 y1.length c_y1) 15 rfl kj (Qaj 24 _ gp 1 24 _ (.slice a_y1 y1.length c_y1) _ r1_4 rfl kj kj kj) <| sg 1 kj <| sgN hK17 <| Qao <| sg 2 kj <| Qaw (fun v W'=>v=.tuple #[]∧ExtB gm W4 W'∧Mk gm (rOf key) (sOf key) (y0++y1) W') 134 #[.pointer (some ⟨gm,0,none⟩),.slice a_y1 y1.length c_y1] 18 rfl kj kj ((addC gm (rOf key) (sOf key) (y0) y1 _ B _ (QgK key hkl hkb) (qT hB hgm) (zbe hy1 x4) hb1 hl1 M4).mono fun e w' h=>⟨_,h.1,rfl,h.2⟩) fun v W5 h5=>?_
  obtain ⟨rfl,q5,M5⟩:=h5
  have x5:=zbc x4 q5 hgm
  refine Qaz <| hK16 _ _ <| sgA kj ?_
  show zal _ _ _ 4 _ _
  show zak _ _ (Exit.then (zal _ _ _ 3) _) _ _
  refine sgB kj <| sgT kj <| wp_seq_k fun K20 hK20=>wp_block <| sgC fun K21 hK21=>Qac (.pointer (some ⟨gp,2,none⟩)) 14 rfl kj (QbN 93 _ _ .i64 (2) gp 5 5 24 rfl kj kj kj kj (by decide)) ?_
  have r1_5:=(zbb q5 r1_4 (Qad r1_2 lm))
  refine Qac (.slice a_y2 y2.length c_y2) 15 rfl kj (Qaj 24 _ gp 2 24 _ (.slice a_y2 y2.length c_y2) _ r1_5 rfl kj kj kj) <| sg 1 kj <| sgN hK21 <| Qao <| sg 2 kj <| Qaw (fun v W'=>v=.tuple #[]∧ExtB gm W5 W'∧Mk gm (rOf key) (sOf key) (y0++y1++y2) W') 134 #[.pointer (some ⟨gm,0,none⟩),.slice a_y2 y2.length c_y2] 18 rfl kj kj ((addC gm (rOf key) (sOf key) (y0++y1) y2 _ B _ (QgK key hkl hkb) (qT hB hgm) (zbe hy2 x5) hb2 hl2 M5).mono fun e w' h=>⟨_,h.1,rfl,h.2⟩) fun v W6 h6=>?_
  obtain ⟨rfl,q6,M6⟩:=h6
  have x6:=zbc x5 q6 hgm
  refine Qaz <| hK20 _ _ <| sgA kj ?_
  show zal _ _ _ 3 _ _
  show zak _ _ (Exit.then (zal _ _ _ 2) _) _ _
  refine sgB kj <| sgT kj <| wp_seq_k fun K24 hK24=>wp_block <| sgC fun K25 hK25=>Qac (.pointer (some ⟨gp,3,none⟩)) 14 rfl kj (QbN 93 _ _ .i64 (3) gp 5 5 24 rfl kj kj kj kj (by decide)) ?_
  have r1_6:=(zbb q6 r1_5 (Qad r1_2 lm))
  refine Qac (.slice a_y3 y3.length c_y3) 15 rfl kj (Qaj 24 _ gp 3 24 _ (.slice a_y3 y3.length c_y3) _ r1_6 rfl kj kj kj) <| sg 1 kj <| sgN hK25 <| Qao <| sg 2 kj <| Qaw (fun v W'=>v=.tuple #[]∧ExtB gm W6 W'∧Mk gm (rOf key) (sOf key) (y0++y1++y2++y3) W') 134 #[.pointer (some ⟨gm,0,none⟩),.slice a_y3 y3.length c_y3] 18 rfl kj kj ((addC gm (rOf key) (sOf key) (y0++y1++y2) y3 _ B _ (QgK key hkl hkb) (qT hB hgm) (zbe hy3 x6) hb3 hl3 M6).mono fun e w' h=>⟨_,h.1,rfl,h.2⟩) fun v W7 h7=>?_
  obtain ⟨rfl,q7,M7⟩:=h7
  have x7:=zbc x6 q7 hgm
  refine Qaz <| hK24 _ _ <| sgA kj ?_
  show zal _ _ _ 2 _ _
  show zak _ _ (Exit.then (zal _ _ _ 1) _) _ _
  refine sgB kj <| sgT kj <| wp_seq_k fun K28 hK28=>wp_block <| sgC fun K29 hK29=>Qac (.pointer (some ⟨gp,4,none⟩)) 14 rfl kj (QbN 93 _ _ .i64 (4) gp 5 5 24 rfl kj kj kj kj (by decide)) <| Qac (.slice a_y4 y4.length c_y4) 15 rfl kj (Qaj 24 _ gp 4 24 _ (.slice a_y4 y4.length c_y4) _ (zbb q7 r1_6 (Qad r1_2 lm)) rfl kj kj kj) <| sg 1 kj <| sgN hK29 <| Qao ?_
  refine sg 2 kj <| Qaw (fun v W'=>v=.tuple #[]∧ExtB gm W7 W'∧Mk gm (rOf key) (sOf key) (y0++y1++y2++y3++y4) W') 134 #[.pointer (some ⟨gm,0,none⟩),.slice a_y4 y4.length c_y4] 18 rfl kj kj ((addC gm (rOf key) (sOf key) (y0++y1++y2++y3) y4 _ B _ (QgK key hkl hkb) (qT hB hgm) (zbe hy4 x7) hb4 hl4 M7).mono fun e w' h=>⟨_,h.1,rfl,h.2⟩) fun v W8 h8=>?_
  obtain ⟨rfl,q8,M8⟩:=h8
  refine Qaz <| hK28 _ _ <| sgA kj ?_
  show zal _ _ _ 1 _ _
  show zak _ _ (Exit.then (zal _ _ _ 0) _) _ _
  refine sgB kj <| wp_seq_k fun K31 hK31=>cond_false kj <| wp_exit <| hK8 _ _ <| sgC fun K32 hK32=>sg 1 kj <| Qaw (fun v W'=>v=.agg (ints .u8 (tagV (rOf key) (sOf key) (y0++y1++y2++y3++y4)))∧ExtB gm W8 W') 135 #[.pointer (some ⟨gm,0,none⟩)] 21 rfl kj kj ((endC gm (rOf key) (sOf key) (y0++y1++y2++y3++y4) _ (QgK key hkl hkb) (Qqa key hkl hkb) M8).mono fun e w' h=>⟨_,h.1,rfl,h.2⟩) fun v W9 h9=>?_
  obtain ⟨rfl,q9⟩:=h9
  have r4_9:=(zbb q9 (zbb q8 (zbb q7 (zbb q6 (zbb q5 (zbb q4 (Qaa r4_2 e3) (Qad r4_2 lm)) (Qad r4_2 lm)) (Qad r4_2 lm)) (Qad r4_2 lm)) (Qad r4_2 lm)) (Qad r4_2 lm))
  refine Qai g4 _ (ints .u8 (tagV (rOf key) (sOf key) (y0++y1++y2++y3++y4))) 162 r4_9 rfl kj (Qag 162 _ _ g4 162 _ _ r4_9 rfl kj kj (isz (n:=16) kj (izT (Qbh _))) (eqsz (n:=16) (izT (qZ (n:=16))) (izT (Qbh _))) (ints_one _ _)) fun W10 p10 r4_10=>sgN hK32 <| wp_ret ?_
  repeat (first | with_reducible refine goR1 ?_ | with_reducible refine goR2 ?_)
  exact (show bodyPost _ _ _ .ret _ _ from ret1 (.agg (ints .u8 (tagV (rOf key) (sOf key) (y0++y1++y2++y3++y4)))) rfl (QaU g4 162 _ r4_10 kj kj (isz (n:=16) kj (izT (Qbh _)))) ⟨rfl,(zaW p10 (zbc (zbc x7 q8 hgm) q9 hgm) (qT x1.size l4))⟩)
end Ae
end
section
namespace Ae
open Go Go.RowKit
open Rely Auto Own Sha
open Sha Cha
theorem Qqb {P : Program} {ρ:Operand→Value} {o:Oper} {w:World} (t:TypeId) (n:Nat) (parts:Array (Nat×Operand)) (vs:Array (Nat×Value)) (ho:o.op=.buildSlice t n parts) (hv:(parts.map fun (i,x)=>(i,ρ x))=vs) {s:Value} {w':World} (h:(Instr.buildSlice t n vs).run P w=.ok s w') :
    (execOp ρ o).run P w=.ok (.value s) w':=by
  unfold execOp
  simp only [ho,hv,za7,h,za9,za8]
theorem run_sap {P : Program} {ρ:Operand→Value} {o:Oper} {w:World} (t:TypeId) (x:Operand) (n:Nat) (e:TypeId) {a:Option Addr} {len cap:Nat} (ho:o.op=.sliceToArrayPointer t x) (hx:ρ x=.slice a len cap) (hu:P.underlying t=some (.array n e)) (h:n≤len) :
    (execOp ρ o).run P w=.ok (.value (.pointer a)) w:=by
  unfold execOp
  simp [ho,hx,Instr.arrayAt,run_underlying hu,Nat.not_lt.2 h]
theorem QnF {k : IntKind} {xs:List Int} {n:Nat}:∀ j v,(ints k (xs.take n))[j]? = some v→(ints k xs)[0+j]? = some v:=fun j v hv=>by
  rw [Nat.zero_add]
  have hj:j<(xs.take n).length:=by
    have:=(Array.getElem?_eq_some_iff.1 hv).1
    rwa [QaD] at this
  have hj2:j<n∧j<xs.length:=by rw [zaq] at hj; omega
  rw [←hv,Qay _ _ _ hj,Qay _ _ _ hj2.2,Qh2 _ _ _ hj2.1]
theorem Qil (ws : List Wd) (n:Int):Qaf (Qb9 ws n):=fun x hx=>by
  unfold Qb9 QcM at hx
  obtain ⟨i,-,rfl⟩:=List.mem_map.1 hx
  omega
def otk (key nonce:List Int):List Int:=(Qb9 (Qbj key nonce) 0).take 32
theorem QlK (key nonce:List Int):(otk key nonce).length=32:=by unfold otk; rw [zaq,Qcl]; rfl
theorem QlL (key nonce:List Int):Qaf (otk key nonce):=Qbq (Qil _ _) 32
def padV (xs : List Int):List Int:=zaN ((16-xs.length%16)%16) 0
theorem QjM (xs : List Int):(padV xs).length=(16-xs.length%16)%16:=qZ
theorem QgN (xs : List Int):Qaf (padV xs):=fun x hx=>by
  have:=List.eq_of_mem_replicate hx
  subst this
  exact ⟨by decide,by decide⟩
def Qrw (ctx mixed:List Int):List Int:=ctx++padV ctx++mixed++padV mixed++(by8 ((ctx.length:Nat):Int)++by8 ((mixed.length:Nat):Int))
def Qe1 (key nonce ctx mixed:List Int):List Int:=tagV (rOf (otk key nonce)) (sOf (otk key nonce)) (Qrw ctx mixed)
theorem Qcc (key nonce ctx mixed:List Int):(Qe1 key nonce ctx mixed).length=16:=Qbh _
theorem Qog (n0 : Nat) (xs:List Int) (v:Value) (B:Nat) (w:World) (h:RdK .u8 B xs v w) (hn0:n0≤w.heap.size):Calls Tryz.prog 122 #[v] w (QcL w (OwnN .u8 5 n0 (padV xs))) :=
  (QpI xs v B w h).mono fun e W' hg=>by
    obtain ⟨v',e1,e2,e3⟩:=hg
    exact ⟨v',e1,e2,e3.base hn0⟩
set_option maxRecDepth 100000 in
theorem QlW (key nonce ctx mixed:List Int) (v v2 v3:Value) (B B2 B3:Nat) (th tq:TypeId) (w:World) (hh:w.heap[2]? = some (.cells (ints .u32 qH) th)) (hq:w.heap[3]? = some (.cells (ints .i64 qQ) tq)) (hkl:key.length=32) (hn:RdK .u8 B nonce v w) (hc:RdK .u8 B2 ctx v2 w) (hm:RdK .u8 B3 mixed v3 w) (h:nonce.length=12) (hcb:Qaf ctx) (hmb:Qaf mixed) (hcl:ctx.length≤2000000) (hml:mixed.length≤2000000) :
  Calls Tryz.prog 103 #[.agg (ints .u8 key),v,v2,v3] w (Ret w (.tuple #[.agg (ints .u8 (Qe1 key nonce ctx mixed)),.nilIface])):=by
 obtain ⟨a_n,c_n,rfl,-⟩:=id hn
 obtain ⟨a_c,c_c,rfl,-⟩:=id hc
 obtain ⟨a_m,c_m,rfl,-⟩:=id hm
 refine enter 42 [(0,.agg (ints .u8 (key))),(1,.slice a_n nonce.length c_n),(2,.slice a_c ctx.length c_c),(3,.slice a_m mixed.length c_m)] Tryz.func103 rfl rfl kj rfl <| sgC fun K3 hK3=>Qak (ints .u8 (key)) 23 4 rfl kj kj fun g4 W1 l4 e1 r4_1=>?_
 have x1:=zaX (zaT w) e1
 have b4:=qT (zaT w).size l4
 refine Qak (ints .u8 (zaN 16 0)) 162 8 rfl kj kj fun g5 W2 l5 e2 r5_2=>?_
 have x2:=zaX x1 e2
 refine sg 1 kj <| sgN hK3 <| sgC fun K6 hK6=>Qac (.agg (ints .u8 (key))) 14 rfl kj (Qae 23 _ g4 23 _ _ (Qaa r4_1 e2) rfl kj kj (isz (n:=32) kj (izT hkl))) <| sg 1 kj <| Qas (.tuple #[.agg (ints .u8 (Qb9 (Qbj key nonce) (0))),.nilIface]) 120 #[.agg (ints .u8 (key)),.slice a_n nonce.length c_n,.int .i64 0] 16 rfl kj kj ((QpD key nonce _ _ 0 th tq _ (Qaa (Qaa hh e1) e2) (Qaa (Qaa hq e1) e2) hkl (zbe hn x2) h (by decide) (by decide))) fun W3 e3=>?_
 have x3:=zaX x2 e3
 refine sg 3 kj <| Qak (ints .u8 (zaN 64 0)) 112 10 rfl kj kj fun g7 W4 l7 e4 r7_4=>Qai g7 _ (ints .u8 (Qb9 (Qbj key nonce) (0))) 112 r7_4 rfl kj (Qag 112 _ _ g7 112 _ _ r7_4 rfl kj kj (isz (n:=64) kj (izT (Qcl _ _))) (eqsz (n:=64) (izT (qZ (n:=64))) (izT (Qcl _ _))) (ints_one _ _)) fun W5 p5 r7_5=>?_
 have x5:=zaW p5 (zaX x3 e4) (qT x3.size l7)
 refine sg 1 kj <| sgN hK6 <| wp_seq_k fun K8 hK8=>sgB kj <| cond_false kj <| wp_skip <| hK8 _ _ <| sgC fun K10 hK10=>sg 2 kj <| Qaw (fun v W'=>(OwnN .u8 5 W5.heap.size (by8 ((ctx.length:Nat):Int))) v W'∧Ext W5 W') 117 #[.int .i64 ((ctx.length:Nat):Int)] 25 rfl kj kj ((Qjt (ctx.length) _).mono (by rintro e w' ⟨v,rfl,e1,hv⟩; exact ⟨v,rfl,hv,e1⟩)) fun vv11 W6 hh11=>?_
 obtain ⟨hv11,e6⟩:=hh11
 obtain ⟨a25_,c25_,rfl,-⟩:=id (zbf hv11)
 refine sg 2 kj <| Qaw (fun v W'=>(OwnN .u8 5 W6.heap.size (by8 ((mixed.length:Nat):Int))) v W'∧Ext W6 W') 117 #[.int .i64 ((mixed.length:Nat):Int)] 28 rfl kj kj ((Qjt (mixed.length) _).mono (by rintro e w' ⟨v,rfl,e1,hv⟩; exact ⟨v,rfl,hv,e1⟩)) fun vv12 W7 hh12=>?_
 obtain ⟨hv12,e7⟩:=hh12
 obtain ⟨a28_,c28_,rfl,-⟩:=id (zbf hv12)
 refine QeO (k:=.u8) (T:=5) (xs:=by8 ((ctx.length:Nat):Int)) (ys:=by8 ((mixed.length:Nat):Int)) (V:=W5) 1 (.tmp 25) (.tmp 28) 24 rfl kj kj (by decide) 29 rfl kj kj kj (hv11.ext e7) (zbf hv12) (by rw [QdJ,QdJ]; decide) (zaU (zaU (zaT W5) e6) e7) fun zl W8 f14 y8 l8=>?_
 have x8:=Ext.low (zaX (zaX x5 e6) e7) l8 x5.size
 obtain ⟨a29_,c29_,rfl,-⟩:=id (zbf f14)
 refine sg 1 kj <| sgN hK10 <| wp_seq_k fun K16 hK16=>Qba 11 [⟨none,[(10,none)]⟩,⟨none,[(30,some 0)]⟩,⟨none,[(31,some 1)]⟩,⟨none,[(2,none)]⟩,⟨none,[(2,none)]⟩,⟨none,[(34,some 4)]⟩,⟨none,[(3,none)]⟩,⟨none,[(3,none)]⟩,⟨none,[(37,some 7)]⟩,⟨none,[(12,none)]⟩,⟨none,[(33,some 3),(35,some 5),(36,some 6),(38,some 8),(39,some 9)]⟩] kj kj fun F hF=>Qa6 (Qar _) (.slice (some ⟨g7,0+0,none⟩) (32-0) (64-0)) kj kj (fun W=>(Qct 112 _ _ _ 0 32 64 g7 0 5 rfl kj kj kj rfl ⟨.i64,by kernel_rfl⟩ (by omega) (by omega) (by omega))) <| Qa6 (Qar _) (.pointer (some ⟨g7,0,none⟩)) kj kj (fun W=>(run_sap 23 _ 32 5 (len:=32) (cap:=64) rfl kj kj (by decide))) <| QcF (Qar _) (.agg (ints .u8 (otk key nonce))) kj kj (fun W hR=>(Qan 23 _ g7 0 112 _ (ints .u8 (otk key nonce)) _ (Qaa (Qaa (Qma l8 (Qaa (Qaa r7_5 e6) e7) (Qa7 r7_5)) (Qah _)) hR) rfl kj (QnF (xs:=Qb9 (Qbj key nonce) (0)) (n:=32)) kj (isz (n:=32) kj (izT (QlK _ _))))) <| Qa6 (Qar _) (.slice a_c ctx.length c_c) kj kj (fun _=>kj) <| Qa6 (Qar _) (.slice a_c ctx.length c_c) kj kj (fun _=>kj) <| Qgy (Qar _) (OwnN .u8 5 W8.heap.size (padV ctx)) (zbd _ _ _ _) 122 #[.slice a_c ctx.length c_c] kj kj (fun _=>kj) (fun W hR=>(Qog W8.heap.size ctx _ _ _ (zbe (zbe hc x8) (zaU (Qah _) hR)) (zaU (Qah _) hR).size)) ?_
 refine Qa6 (Qar _) (.slice a_m mixed.length c_m) kj kj (fun _=>kj) <| Qa6 (Qar _) (.slice a_m mixed.length c_m) kj kj (fun _=>kj) <| Qgy (Qar _) (OwnN .u8 5 W8.heap.size (padV mixed)) (zbd _ _ _ _) 122 #[.slice a_m mixed.length c_m] kj kj (fun _=>kj) (fun W hR=>(Qog W8.heap.size mixed _ _ _ (zbe (zbe hm x8) (zaU (Qah _) hR)) (zaU (Qah _) hR).size)) <| Qa6 (Qar _) (.slice a29_ ((by8 ((ctx.length:Nat):Int)++by8 ((mixed.length:Nat):Int)).length) c29_) kj kj (fun _=>kj) <| Qfk (Qar _) (fun v W=>∃ g za35_19 za38_19,v=.slice (some ⟨g,0,none⟩) 5 5∧W8.heap.size≤g∧W.heap[g]? = some (.cells #[.slice a_c ctx.length c_c,za35_19,.slice a_m mixed.length c_m,za38_19,.slice a29_ ((by8 ((ctx.length:Nat):Int)++by8 ((mixed.length:Nat):Int)).length) c29_] 24)∧(OwnN .u8 5 W8.heap.size (padV ctx)) za35_19 W∧(OwnN .u8 5 W8.heap.size (padV mixed)) za38_19 W) (fun _ _ _ hR ⟨g,za35_19,za38_19,h1,h2,h3,qza35_19,qza38_19⟩=>⟨g,za35_19,za38_19,h1,h2,Qaa h3 hR,(zbd _ _ _ _) _ _ _ hR qza35_19,(zbd _ _ _ _) _ _ _ hR qza38_19⟩) (fun ρ W hR hh=>?_) ?_
 ·skip
  have e33:ρ 33=.slice a_c ctx.length c_c:=hh.1
  obtain ⟨ar35,cr35,e35,-⟩:=id (zbf hh.2.1)
  have e36:ρ 36=.slice a_m mixed.length c_m:=hh.2.2.1
  obtain ⟨ar38,cr38,e38,-⟩:=id (zbf hh.2.2.2.1)
  have e39:ρ 39=.slice a29_ ((by8 ((ctx.length:Nat):Int)++by8 ((mixed.length:Nat):Int)).length) c29_:=hh.2.2.2.2.1
  refine ⟨_,_,Qqb 93 5 _ _ rfl (Eq.trans (b:=#[(0,ρ 33),(1,ρ 35),(2,ρ 36),(3,ρ 38),(4,ρ 39)]) kj (by rw [e33,e35,e36,e38,e39])) (s:=.slice (some ⟨W.heap.size,0,none⟩) 5 5) (w':=W.alloc (.cells #[.slice a_c ctx.length c_c,.slice ar35 (padV ctx).length cr35,.slice a_m mixed.length c_m,.slice ar38 (padV mixed).length cr38,.slice a29_ ((by8 ((ctx.length:Nat):Int)++by8 ((mixed.length:Nat):Int)).length) c29_] 24)) kj,QaK _ _,⟨W.heap.size,ρ 35,ρ 38,rfl,(zaU (Qah _) hR).size,?_,(zbd _ _ _ _) _ _ _ (QaK _ _) hh.2.1,(zbd _ _ _ _) _ _ _ (QaK _ _) hh.2.2.2.1⟩⟩
  rw [e35,e38]; exact heap_alloc_new _ _
 refine Qdr (hF _ fun W9 e9=>?_)
 simp only [zam,zan,zax,zao,zay,zaz,finE,up]
 intro vv17 hv17 vv18 hv18 vv19 hv19
 clear hF
 have x9:=zaX x8 e9
 obtain ⟨g20,za35_19,za38_19,rfl,l20,r20_9,qza35_19,qza38_19⟩:=hv19
 have b20:=qT x8.size l20
 obtain ⟨a35b_,c35b_,rfl,-⟩:=id (zbf qza35_19)
 obtain ⟨a38b_,c38b_,rfl,-⟩:=id (zbf qza38_19)
 refine Qas (.agg (ints .u8 (Qe1 key nonce ctx mixed))) 121 #[.agg (ints .u8 (otk key nonce)),.slice (some ⟨g20,0,none⟩) 5 5] 41 rfl kj kj ((Qqr (otk key nonce) ctx (padV ctx) mixed (padV mixed) (by8 ((ctx.length:Nat):Int)++by8 ((mixed.length:Nat):Int)) _ _ _ _ _ _ _ _ (QlK _ _) (QlL _ _) (qR _) (RdK.here (zbe hc x9)) hcb (by omega) (RdK.here (zbf qza35_19)) (QgN _) (by rw [QjM]; omega) (RdK.here (zbe hm x9)) hmb (by omega) (RdK.here (zbf qza38_19)) (QgN _) (by rw [QjM]; omega) (RdK.here (zbf (f14.ext e9))) (bytes_app (QiE _) (QiE _)) (by rw [zaH,QdJ,QdJ]; decide) r20_9)) fun W10 e10=>?_
 have r5_3:=(Qaa r5_2 e3)
 have r5_5:=(rpn p5 r5_3 e4 l7)
 have r5_10:=(Qaa (Qaa (Qma l8 (Qaa (Qaa r5_5 e6) e7) (Qa7 r5_5)) e9) e10)
 refine Qai g5 _ (ints .u8 (Qe1 key nonce ctx mixed)) 162 r5_10 rfl kj (Qag 162 _ _ g5 162 _ _ r5_10 rfl kj kj (isz (n:=16) kj (izT (Qcc _ _ _ _))) (eqsz (n:=16) (izT (qZ (n:=16))) (izT (Qcc _ _ _ _))) (ints_one _ _)) fun W11 p11 r5_11=>sg 1 kj <| sgN hK16 <| wp_ret ?_
 repeat (first | with_reducible refine goR1 ?_ | with_reducible refine goR2 ?_)
 exact (show bodyPost _ _ _ .ret _ _ from ret2 (.agg (ints .u8 (Qe1 key nonce ctx mixed))) (.nilIface) rfl (QaU g5 162 _ r5_11 kj kj (isz (n:=16) kj (izT (Qcc _ _ _ _)))) (Qa4 kj) ⟨rfl,(zaW p11 (zaX x9 e10) (qT x1.size l5))⟩)
end Ae
end
section
namespace Ae
open Go Go.RowKit
open Rely Auto Own Sha
open Sha Cha
def Qc0 (key nonce ctx text:List Int):List Int:=mixV (Qbj key nonce) 1 text++Qe1 key nonce ctx (mixV (Qbj key nonce) 1 text)
theorem QbR (key nonce ctx text:List Int):(Qc0 key nonce ctx text).length=text.length+16:=by unfold Qc0; rw [zaH,Qcv,Qcc]
theorem Qnb (xs ys:List Int) (v v2:Value) (B B2:Nat) (w:World) (e:xs=ys) (hx:RdK .u8 B xs v w) (hy:RdK .u8 B2 ys v2 w) (hxb:Qaf xs) (hyb:Qaf ys) (hl:ys.length=xs.length) (hxl:xs.length≤2000000):Calls Tryz.prog 106 #[v,v2] w (Ret w (.bool true)):=by
  have h:=QpY xs ys v v2 B B2 w hx hy hxb hyb hl hxl
  rw [decide_eq_true e] at h
  exact h
theorem Qg6 (key nonce ctx mixed:List Int):Qaf (Qe1 key nonce ctx mixed):=Qla _
theorem Qdw (key nonce ctx text:List Int):Qaf (Qc0 key nonce ctx text):=bytes_app (QgQ _ _ _) (Qg6 _ _ _ _)
theorem MixE (key nonce text fm:List Int) (v v2:Value) (B B2:Nat) (th tq:TypeId) (w:World) (hh:w.heap[2]? = some (.cells (ints .u32 qH) th)) (hq:w.heap[3]? = some (.cells (ints .i64 qQ) tq)) (hkl:key.length=32) (hn:RdK .u8 B nonce v w) (ht:RdK .u8 B2 text v2 w) (h:nonce.length=12) (hl:text.length≤2000000) (em:mixV (Qbj key nonce) 1 text=fm) :
    Calls Tryz.prog 102 #[.agg (ints .u8 key),v,.int .i64 1,v2] w (QcL w (MixR w.heap.size fm)):=by
  subst em
  exact MixG w.heap.size key nonce text v v2 B B2 1 th tq w hh hq hkl hn ht h 4294967295 (by decide) (by decide) (by decide) (by omega) hl (qR _)
set_option maxRecDepth 100000 in
theorem QqD (key nonce ctx text:List Int) (v v2 v3:Value) (B B2 B3:Nat) (th tq:TypeId) (w:World) (hh:w.heap[2]? = some (.cells (ints .u32 qH) th)) (hq:w.heap[3]? = some (.cells (ints .i64 qQ) tq)) (hkl:key.length=32) (hn:RdK .u8 B nonce v w) (hc:RdK .u8 B2 ctx v2 w) (ht:RdK .u8 B3 text v3 w) (hcb:Qaf ctx) (h:nonce.length=12) (hcl:ctx.length≤1048576) (hxl:text.length≤1048576) :
    Calls Tryz.prog 76 #[.agg (ints .u8 key),v,v2,v3] w (QcL w (MixR w.heap.size (Qc0 key nonce ctx text))):=by
  obtain ⟨a_n,c_n,rfl,-⟩:=id hn
  obtain ⟨a_c,c_c,rfl,-⟩:=id hc
  obtain ⟨a_t,c_t,rfl,-⟩:=id ht
  obtain ⟨fm,em⟩:∃ z:List Int,mixV (Qbj key nonce) 1 text=z:=⟨_,rfl⟩
  have lfm:fm.length=text.length:=by rw [←em,Qcv]
  have hfb:Qaf fm:=by rw [←em]; exact QgQ _ _ _
  refine enter 51 [(0,.agg (ints .u8 (key))),(1,.slice a_n nonce.length c_n),(2,.slice a_c ctx.length c_c),(3,.slice a_t text.length c_t)] Tryz.func76 rfl rfl kj rfl <| sgC fun K3 hK3=>Qak (ints .u8 (key)) 23 4 rfl kj kj fun g4 W1 l4 e1 r4_1=>?_
  have x1:=zaX (zaT w) e1
  have b4:=qT (zaT w).size l4
  refine sg 2 kj <| sgN hK3 <| wp_seq_k fun K5 hK5=>sgC fun K6 hK6=>sg 2 kj <| Qac (.bool false) 15 rfl kj (Qam (u:=.bool ((((nonce.length:Nat):Int) != 12))) kj (congrArg zaJ (by rw [h]; rfl))) ?_
  refine sg 3 kj <| Qac (.bool false) 19 rfl kj (Qam (u:=.bool (decide (((ctx.length:Nat):Int)>1048576))) kj (congrArg zaJ (decide_eq_false (by omega)))) <| sg 4 kj <| Qac (.bool false) 24 rfl kj (Qam (u:=.bool (decide (((text.length:Nat):Int)>1048576))) kj (congrArg zaJ (decide_eq_false (by omega)))) <| sg 1 kj <| sgN hK6 <| cond_false kj <| wp_skip <| hK5 _ _ <| sgC fun K7 hK7=>?_
  refine Qac (.agg (ints .u8 (key))) 28 rfl kj (Qae 23 _ g4 23 _ _ r4_1 rfl kj kj (isz (n:=32) kj (izT hkl))) <| sg 2 kj ?_
  have r2_1:=(Qaa hh e1)
  have r1_1:=(Qaa hq e1)
  refine Qaw (fun v W'=>(MixR W1.heap.size (fm)) v W'∧Ext W1 W') 102 #[.agg (ints .u8 (key)),.slice a_n nonce.length c_n,.int .i64 1,.slice a_t text.length c_t] 31 rfl kj kj ((MixE key nonce (text) (fm) _ _ _ _ th tq _ r2_1 r1_1 hkl (zbe hn x1) (zbe ht x1) h (by omega) em).mono (by rintro e w' ⟨v,rfl,e1,hv⟩; exact ⟨v,rfl,hv,e1⟩)) fun vv8 W2 hh8=>?_
  obtain ⟨hv8,e2⟩:=hh8
  have x2:=zaX x1 e2
  obtain ⟨u31_,rfl,hu31_⟩:=hv8
  obtain ⟨a31_,c31_,rfl,-⟩:=id (zbf hu31_)
  refine sg 5 kj <| sgN hK7 <| wp_seq_k fun K9 hK9=>sgB kj <| cond_false kj <| wp_skip <| hK9 _ _ <| sgC fun K11 hK11=>Qac (.agg (ints .u8 (key))) 38 rfl kj (Qae 23 _ g4 23 _ _ (Qaa r4_1 e2) rfl kj kj (isz (n:=32) kj (izT hkl))) <| sg 3 kj ?_
  refine Qas (.tuple #[.agg (ints .u8 (Qe1 key nonce ctx fm)),.nilIface]) 103 #[.agg (ints .u8 (key)),.slice a_n nonce.length c_n,.slice a_c ctx.length c_c,.slice a31_ ((fm).length) c31_] 42 rfl kj kj ((QlW key nonce ctx fm _ _ _ _ _ _ th tq _ (Qaa r2_1 e2) (Qaa r1_1 e2) hkl (zbe hn x2) (zbe hc x2) (zbf hu31_) h hcb hfb (by omega) (by omega))) fun W3 e3=>?_
  have x3:=zaX x2 e3
  refine sg 3 kj <| Qak (ints .u8 (zaN 16 0)) 162 12 rfl kj kj fun g12 W4 l12 e4 r12_4=>Qai g12 _ (ints .u8 (Qe1 key nonce ctx fm)) 162 r12_4 rfl kj (Qag 162 _ _ g12 162 _ _ r12_4 rfl kj kj (isz (n:=16) kj (izT (Qcc _ _ _ _))) (eqsz (n:=16) (izT (qZ (n:=16))) (izT (Qcc _ _ _ _))) (ints_one _ _)) fun W5 p5 r12_5=>sg 1 kj <| sgN hK11 <| wp_seq_k fun K13 hK13=>sgB kj <| cond_false kj <| wp_skip <| hK13 _ _ ?_
  refine sgC fun K15 hK15=>sg 2 kj ?_
  have f16_3:=(hu31_.ext e3)
  have y1_3:=(zaU (zaU (zaT W1) e2) e3)
  refine QeO (k:=.u8) (T:=5) (xs:=fm) (ys:=Qe1 key nonce ctx fm) (V:=W1) 1 (.tmp 48) (.tmp 49) 24 rfl kj kj (by decide) 50 rfl kj kj kj ((f16_3.ext e4).puts p5 (Qit f16_3 l12)) (Qb8 (xs:=Qe1 key nonce ctx fm) (n:=16) (Qcc _ _ _ _) r12_5 (Qa7 r12_5) (show 16≤maxLen from by decide)) (by rw [Qcc]; omega) (zaW p5 (zaU y1_3 e4) (qT y1_3.size l12)) fun zs W6 f19 y6 l6=>?_
  refine sg 2 kj <| sgN hK15 <| wp_ret ?_
  repeat (first | with_reducible refine goR1 ?_ | with_reducible refine goR2 ?_)
  exact (show bodyPost _ _ _ .ret _ _ from ret2 (zs) (.nilIface) rfl (Qa4 kj) (Qa4 kj) ⟨_,rfl,(Ext.low (zaW p5 (zaX x3 e4) (qT x3.size l12)) l6 x1.size),zs,rfl,by unfold Qc0; rw [em]; exact OwnN.base x1.size f19⟩)
end Ae
end
section
namespace Ae
open Go Go.RowKit
open Rely Auto Own Sha
open Sha Cha
theorem Qi6 (n : Nat) (h:16≤n) (hm:n≤maxLen):zat.wrap (((n:Nat):Int)-16)=((n-16:Nat):Int):=by
  rw [show ((n:Nat):Int)-16=((n-16:Nat):Int) by omega]
  exact IntWalk.i64_in _ (by rw [maxLen] at hm; omega)
set_option maxRecDepth 100000 in
theorem QqH (key nonce ctx sl:List Int) (v v2 v3:Value) (B B2 B3:Nat) (th tq:TypeId) (w:World) (hh:w.heap[2]? = some (.cells (ints .u32 qH) th)) (hq:w.heap[3]? = some (.cells (ints .i64 qQ) tq)) (hkl:key.length=32) (hn:RdK .u8 B nonce v w) (hc:RdK .u8 B2 ctx v2 w) (ht:RdK .u8 B3 sl v3 w) (hcb:Qaf ctx) (htb:Qaf sl) (h:nonce.length=12) (hcl:ctx.length≤1048592) (hxl:sl.length≤1048592) (hsh:16≤sl.length) (hne:Qe1 key nonce ctx (sl.take (sl.length-16))=sl.drop (sl.length-16)) :
    Calls Tryz.prog 81 #[.agg (ints .u8 key),v,v2,v3] w (QcL w (MixR w.heap.size (mixV (Qbj key nonce) 1 (sl.take (sl.length-16))))):=by
  obtain ⟨a_n,c_n,rfl,-⟩:=id hn
  obtain ⟨a_c,c_c,rfl,-⟩:=id hc
  obtain ⟨a_t,c_t,rfl,-⟩:=id ht
  have ctk:sl.length≤c_t:=by
    obtain ⟨_,_,e,q2,_⟩:=id ht
    simp only [Value.slice.injEq] at e
    obtain ⟨-,-,rfl⟩:=e
    exact q2
  have htm:sl.length≤maxLen:=RdK.len ht
  have hlt_:(sl.take (sl.length-16)).length=sl.length-16:=by rw [zaq]; omega
  obtain ⟨fm,em⟩:∃ z:List Int,mixV (Qbj key nonce) 1 (sl.take (sl.length-16))=z:=⟨_,rfl⟩
  refine enter 64 [(0,.agg (ints .u8 (key))),(1,.slice a_n nonce.length c_n),(2,.slice a_c ctx.length c_c),(3,.slice a_t sl.length c_t)] Tryz.func81 rfl rfl kj rfl <| sgC fun K3 hK3=>Qak (ints .u8 (key)) 23 4 rfl kj kj fun g4 W1 l4 e1 r4_1=>?_
  have b4:=qT (zaT w).size l4
  refine sg 2 kj <| sgN hK3 <| wp_seq_k fun K5 hK5=>sgC fun K6 hK6=>sg 2 kj <| Qac (.bool false) 16 rfl kj (Qam (u:=.bool ((((nonce.length:Nat):Int) != 12))) kj (congrArg zaJ (by rw [h]; rfl))) ?_
  refine sg 3 kj <| Qac (.bool false) 20 rfl kj (Qam (u:=.bool (decide (((ctx.length:Nat):Int)>1048592))) kj (congrArg zaJ (decide_eq_false (by omega)))) <| sg 4 kj <| Qac (.bool false) 25 rfl kj (Qam (u:=.bool (decide (((sl.length:Nat):Int)>1048592))) kj (congrArg zaJ (decide_eq_false (by omega)))) <| sg 1 kj <| sgN hK6 <| cond_false kj <| wp_skip <| hK5 _ _ <| wp_seq_k fun K7 hK7=>?_
  refine sgC fun K8 hK8=>sg 2 kj <| Qac (.bool false) 30 rfl kj (Qam (u:=.bool (decide (((sl.length:Nat):Int)<16))) kj (congrArg zaJ (decide_eq_false (by omega)))) <| sgN hK8 <| cond_false kj <| wp_skip <| hK7 _ _ <| wp_seq_k fun K9 hK9=>Qba 11 [⟨none,[(3,none)]⟩,⟨none,[(3,none)]⟩,⟨none,[(33,some 1)]⟩,⟨none,[(34,some 2)]⟩,⟨none,[(32,some 0),(35,some 3)]⟩,⟨none,[(3,none)]⟩,⟨none,[(3,none)]⟩,⟨none,[(38,some 6)]⟩,⟨none,[(39,some 7)]⟩,⟨none,[(37,some 5),(40,some 8)]⟩,⟨none,[(36,some 4)]⟩] kj kj fun F hF=>Qa6 (Qar _) (.slice a_t sl.length c_t) kj kj (fun _=>kj) ?_
  refine Qa6 (Qar _) (.slice a_t sl.length c_t) kj kj (fun _=>kj) <| Qa6 (Qar _) (.int .i64 ((sl.length:Nat):Int)) kj kj (fun _=>kj) <| Qa6 (Qar _) (.int .i64 (((sl.length-16:Nat):Int))) kj kj (fun W=>(Qam (u:=.int .i64 (zat.wrap (((sl.length:Nat):Int)-16))) kj (congrArg (zav .i64) (Qi6 _ hsh htm)))) <| Qa6 (Qar _) (.slice a_t (sl.length-16) c_t) kj kj (fun W=>(QgH (len:=sl.length) 24 _ _ (sl.length-16) 5 rfl kj kj kj .i64 kj (qT (zaQ _ _) ctk))) <| Qa6 (Qar _) (.slice a_t sl.length c_t) kj kj (fun _=>kj) <| Qa6 (Qar _) (.slice a_t sl.length c_t) kj kj (fun _=>kj) <| Qa6 (Qar _) (.int .i64 ((sl.length:Nat):Int)) kj kj (fun _=>kj) <| Qa6 (Qar _) (.int .i64 (((sl.length-16:Nat):Int))) kj kj (fun W=>(Qam (u:=.int .i64 (zat.wrap (((sl.length:Nat):Int)-16))) kj (congrArg (zav .i64) (Qi6 _ hsh htm)))) <| Qa6 (Qar _) (.slice (restA a_t c_t (sl.length-16)) (sl.length-(sl.length-16)) (c_t-(sl.length-16))) kj kj (fun W=>(Qft 24 _ _ (sl.length-16) 5 rfl kj kj kj .i64 kj (zaQ _ _) ctk)) <| Qa6 (Qar _) (.slice a_t (sl.length-16) c_t) kj kj (fun _=>kj) ?_
  refine Qdr (hF _ fun W2 e2=>?_)
  simp only [zam,zan,zax,zao,zay,zaz,finE,up]
  clear hF
  have x2:=zaX (zaX (zaT w) e1) e2
  refine sg 1 kj <| sgN hK9 <| sgC fun K10 hK10=>?_
  have r4_2:=(Qaa r4_1 e2)
  refine Qac (.agg (ints .u8 (key))) 43 rfl kj (Qae 23 _ g4 23 _ _ r4_2 rfl kj kj (isz (n:=32) kj (izT hkl))) <| sg 3 kj ?_
  have r2_2:=(Qaa (Qaa hh e1) e2)
  have r1_2:=(Qaa (Qaa hq e1) e2)
  refine Qas (.tuple #[.agg (ints .u8 (Qe1 key nonce ctx (sl.take (sl.length-16)))),.nilIface]) 103 #[.agg (ints .u8 (key)),.slice a_n nonce.length c_n,.slice a_c ctx.length c_c,.slice a_t (sl.length-16) c_t] 47 rfl kj kj ((QlW key nonce ctx (sl.take (sl.length-16)) _ _ _ _ _ _ th tq _ r2_2 r1_2 hkl (zbe hn x2) (zbe hc x2) (QjG (zbe ht x2) (sl.length-16) (zaQ _ _)) h hcb (Qbq htb _) (by omega) (by omega))) fun W3 e3=>?_
  have x3:=zaX x2 e3
  refine sg 3 kj <| Qak (ints .u8 (zaN 16 0)) 162 12 rfl kj kj fun g11 W4 l11 e4 r11_4=>Qai g11 _ (ints .u8 (Qe1 key nonce ctx (sl.take (sl.length-16)))) 162 r11_4 rfl kj (Qag 162 _ _ g11 162 _ _ r11_4 rfl kj kj (isz (n:=16) kj (izT (Qcc _ _ _ _))) (eqsz (n:=16) (izT (qZ (n:=16))) (izT (Qcc _ _ _ _))) (ints_one _ _)) fun W5 p5 r11_5=>?_
  have x5:=zaW p5 (zaX x3 e4) (qT x3.size l11)
  refine sg 1 kj <| sgN hK10 <| wp_seq_k fun K12 hK12=>sgB kj <| cond_false kj <| wp_skip <| hK12 _ _ <| wp_seq_k fun K14 hK14=>sgC fun K15 hK15=>sg 2 kj ?_
  refine Qas (.bool true) 106 #[.slice (some ⟨g11,0,none⟩) 16 16,.slice (restA a_t c_t (sl.length-16)) (sl.length-(sl.length-16)) (c_t-(sl.length-16))] 55 rfl kj kj ((Qnb (Qe1 key nonce ctx (sl.take (sl.length-16))) (sl.drop (sl.length-16)) _ _ W5.heap.size _ W5 hne (Qb8 (xs:=Qe1 key nonce ctx (sl.take (sl.length-16))) (n:=16) (Qcc _ _ _ _) r11_5 (Qa7 r11_5) (show 16≤maxLen from by decide)) (Qhr (zbe ht x5) (sl.length-16) (zaQ _ _)) (Qg6 _ _ _ _) (Qcb htb _) (by rw [za5,Qcc]; omega) (by rw [Qcc]; decide))) fun W6 e6=>?_
  have x6:=zaX x5 e6
  refine sg 1 kj <| sgN hK15 <| cond_false kj <| wp_skip <| hK14 _ _ <| sgC fun K16 hK16=>?_
  have r4_3:=(Qaa r4_2 e3)
  refine Qac (.agg (ints .u8 (key))) 58 rfl kj (Qae 23 _ g4 23 _ _ (Qaa (rpn p5 r4_3 e4 l11) e6) rfl kj kj (isz (n:=32) kj (izT hkl))) <| sg 2 kj ?_
  have r2_3:=(Qaa r2_2 e3)
  have r1_3:=(Qaa r1_2 e3)
  refine Qaw (fun v W'=>(MixR W6.heap.size (fm)) v W'∧Ext W6 W') 102 #[.agg (ints .u8 (key)),.slice a_n nonce.length c_n,.int .i64 1,.slice a_t (sl.length-16) c_t] 61 rfl kj kj ((MixE key nonce (sl.take (sl.length-16)) (fm) _ _ _ _ th tq _ (Qaa (rpn p5 r2_3 e4 l11) e6) (Qaa (rpn p5 r1_3 e4 l11) e6) hkl (zbe hn x6) (QjG (zbe ht x6) (sl.length-16) (zaQ _ _)) h (by omega) em).mono (by rintro e w' ⟨v,rfl,e1,hv⟩; exact ⟨v,rfl,hv,e1⟩)) fun vv17 W7 hh17=>?_
  obtain ⟨hv17,e7⟩:=hh17
  obtain ⟨u61_,rfl,hu61_⟩:=hv17
  refine sg 4 kj <| sgN hK16 <| wp_ret ?_
  repeat (first | with_reducible refine goR1 ?_ | with_reducible refine goR2 ?_)
  exact (show bodyPost _ _ _ .ret _ _ from ret2 (u61_) (.nilIface) rfl (Qa4 kj) (Qa4 kj) ⟨_,rfl,(zaX x6 e7),u61_,rfl,by rw [em]; exact OwnN.base x6.size hu61_⟩)
end Ae
end
section
namespace Ae
open Go Go.RowKit
open Rely Auto Own Sha
open Sha Cha
theorem Qpt (n0 n:Nat) (w:World) (hn0:n0≤w.heap.size):Calls Tryz.prog 117 #[.int .i64 ((n:Nat):Int)] w (QcL w (OwnN .u8 5 n0 (by8 ((n:Nat):Int)))) :=
  (Qjt n w).mono fun e W' hg=>by
    obtain ⟨v',e1,e2,e3⟩:=hg
    exact ⟨v',e1,e2,e3.base hn0⟩
theorem Qqp (n : Nat) (w:World):Calls Tryz.prog 101 #[.int .i64 ((n:Nat):Int)] w (QcL w (OwnN .u8 5 w.heap.size ([0,0,0,0]++by8 ((n:Nat):Int)))):=by
  refine enter 7 [(0,.int .i64 ((n:Nat):Int))] Tryz.func101 rfl rfl kj rfl <| sgB kj <| wp_seq_k fun K2 hK2=>Qba 3 [⟨none,[]⟩,⟨none,[(0,none)]⟩,⟨none,[(4,some 1)]⟩] kj kj fun F hF=>QeL (Qar _) (ints .u8 ([0,0,0,0])) 5 4 (NewS.stable _ _ _ _) kj kj (fun _=>kj) <| Qa6 (Qar _) (.int .i64 ((n:Nat):Int)) kj kj (fun _=>kj) <| Qgy (Qar _) (OwnN .u8 5 w.heap.size (by8 ((n:Nat):Int))) (zbd _ _ _ _) 117 #[.int .i64 ((n:Nat):Int)] kj kj (fun _=>kj) (fun W hR=>(Qpt w.heap.size n _ (zaU (Qah _) hR).size)) <| Qdr (hF _ fun W1 e1=>?_)
  simp only [zam,zan,zax,zao,zay,zaz,finE,up]
  intro vv3 hv3 vv4 hv4
  clear hF
  obtain ⟨g3,rfl,l3,r3_1⟩:=hv3
  have b3:=qT (zaT w).size l3
  obtain ⟨a5_,c5_,rfl,-⟩:=id (zbf hv4)
  refine QeO (k:=.u8) (T:=5) (xs:=[0,0,0,0]) (ys:=by8 ((n:Nat):Int)) (V:=w) 1 (.tmp 3) (.tmp 5) 24 rfl kj kj (by decide) 6 rfl kj kj kj (QdD (xs:=[0,0,0,0]) rfl l3 r3_1 (by decide)) (zbf hv4) (by rw [QdJ]; decide) (zaU (zaT w) e1) fun zn W2 f5 y2 l2=>?_
  refine sg 1 kj <| sgN hK2 <| wp_ret ?_
  repeat (first | with_reducible refine goR1 ?_ | with_reducible refine goR2 ?_)
  exact (show bodyPost _ _ _ .ret _ _ from ret1 (zn) rfl (Qa4 kj) ⟨zn,rfl,(Ext.low (zaX (zaT w) e1) l2 (zaT w).size),OwnN.base (qR _) f5⟩)
theorem Qrl (w : World):Calls Tryz.prog 18 #[.iface 60 (.int .i64 2)] w (Ret w (.int .i64 2)):=by
  refine enter 19 [(0,.iface 60 (.int .i64 2))] Tryz.func18 rfl rfl kj rfl <| sgB kj <| wp_seq_k fun K2 hK2=>sgB kj <| cond_false kj <| wp_skip <| hK2 _ _ <| sgB kj <| wp_seq_k fun K5 hK5=>sgB kj ?_
  refine cond_false kj <| wp_skip <| hK5 _ _ <| sgB kj <| wp_ret ?_
  repeat (first | with_reducible refine goR1 ?_ | with_reducible refine goR2 ?_)
  exact (show bodyPost _ _ _ .ret _ _ from ret1 (.int .i64 2) rfl (Qa4 kj) ⟨rfl,(zaT w)⟩)
theorem Qrm (w : World):Calls Tryz.prog 18 #[.iface 60 (.int .i64 1)] w (Ret w (.int .i64 1)):=by
  refine enter 19 [(0,.iface 60 (.int .i64 1))] Tryz.func18 rfl rfl kj rfl <| sgB kj <| wp_seq_k fun K2 hK2=>sgB kj <| cond_false kj <| wp_skip <| hK2 _ _ <| sgB kj <| wp_seq_k fun K5 hK5=>sgB kj ?_
  refine cond_false kj <| wp_skip <| hK5 _ _ <| sgB kj <| wp_ret ?_
  repeat (first | with_reducible refine goR1 ?_ | with_reducible refine goR2 ?_)
  exact (show bodyPost _ _ _ .ret _ _ from ret1 (.int .i64 1) rfl (Qa4 kj) ⟨rfl,(zaT w)⟩)
theorem is2 (w : World):Calls Tryz.prog 25 #[.iface 60 (.int .i64 2),.int .i64 2] w (Ret w (.bool true)):=by
  refine enter 9 [(0,.iface 60 (.int .i64 2)),(1,.int .i64 2)] Tryz.func25 rfl rfl kj rfl <| sgB kj <| sgC fun K2 hK2=>sg 1 kj <| Qas (.int .i64 2) 18 #[.iface 60 (.int .i64 2)] 6 rfl kj kj ((Qrl) _) fun W1 e1=>sg 3 kj <| sgN hK2 <| wp_ret ?_
  repeat (first | with_reducible refine goR1 ?_ | with_reducible refine goR2 ?_)
  exact (show bodyPost _ _ _ .ret _ _ from ret1 (.bool true) rfl (Qa4 kj) ⟨rfl,(zaX (zaT w) e1)⟩)
theorem is1 (w : World):Calls Tryz.prog 25 #[.iface 60 (.int .i64 1),.int .i64 1] w (Ret w (.bool true)):=by
  refine enter 9 [(0,.iface 60 (.int .i64 1)),(1,.int .i64 1)] Tryz.func25 rfl rfl kj rfl <| sgB kj <| sgC fun K2 hK2=>sg 1 kj <| Qas (.int .i64 1) 18 #[.iface 60 (.int .i64 1)] 6 rfl kj kj ((Qrm) _) fun W1 e1=>sg 3 kj <| sgN hK2 <| wp_ret ?_
  repeat (first | with_reducible refine goR1 ?_ | with_reducible refine goR2 ?_)
  exact (show bodyPost _ _ _ .ret _ _ from ret1 (.bool true) rfl (Qa4 kj) ⟨rfl,(zaX (zaT w) e1)⟩)
theorem QhX (key nonce ctx text:List Int):(Qc0 key nonce ctx text).take ((Qc0 key nonce ctx text).length-16)=mixV (Qbj key nonce) 1 text:=by
  rw [QbR]; unfold Qc0
  rw [zaC (by rw [Qcv]; omega),zaB (by rw [Qcv]; omega)]
theorem Ql0 (key nonce ctx text:List Int):(Qc0 key nonce ctx text).drop ((Qc0 key nonce ctx text).length-16)=Qe1 key nonce ctx (mixV (Qbj key nonce) 1 text):=by
  rw [QbR]; unfold Qc0
  rw [zaF (by rw [Qcv]; omega),zaE (by rw [Qcv]; omega),zam]
theorem QmO (key nonce ctx text:List Int) (v v2 v3:Value) (B B2 B3:Nat) (th tq:TypeId) (w:World) (hh:w.heap[2]? = some (.cells (ints .u32 qH) th)) (hq:w.heap[3]? = some (.cells (ints .i64 qQ) tq)) (hkl:key.length=32) (hn:RdK .u8 B nonce v w) (hc:RdK .u8 B2 ctx v2 w) (ht:RdK .u8 B3 (Qc0 key nonce ctx text) v3 w) (hcb:Qaf ctx) (htb:Qaf text) (h:nonce.length=12) (hcl:ctx.length≤1048576) (hxl:text.length≤1048576) :
    Calls Tryz.prog 81 #[.agg (ints .u8 key),v,v2,v3] w (QcL w (MixR w.heap.size text)):=by
  have h1:=QqH key nonce ctx (Qc0 key nonce ctx text) v v2 v3 B B2 B3 th tq w hh hq hkl hn hc ht hcb (Qdw _ _ _ _) h (by omega) (by rw [QbR]; omega) (by rw [QbR]; omega) (by rw [QhX,Ql0])
  rw [QhX,Qpp _ _ _ htb] at h1
  exact h1
end Ae
end
section
namespace Ll
open Go Go.RowKit
open Rely Auto Own Sha Sha
open Cha Ae
theorem Qei {k : IntKind} {T:TypeId} {base g:Nat} {xs:List Int} {v:Value} {W:World} (h:OwnN k T base xs v W) (hg:g<base):v.ownBlock≠some g:=fun e=>by
  have:=h.ge e
  omega
theorem QcY {k : IntKind} {T:TypeId} {b g:Nat} {xs:List Int} {v:Value} {W W':World} (h:OwnN k T b xs v W) (q:ExtB g W W') (hn:v.ownBlock≠some g):OwnN k T b xs v W':=h.keep fun k hk=>q.2.2.2.2 k (h.lt hk) (fun e=>hn (by rw [hk,e]))
theorem run_storeQ {P : Program} {ρ:Operand→Value} {o:Oper} {w:World} (ty:TypeId) (x y:Operand) (g off:Nat) (t:TypeId) (pre post:List (Array Value)) (u v:Value) (hg:w.heap[g]? = some (.cells (cat (pre++([#[u]]++post))) t))
    (ho:o.op=.store ty x y) (hx:ρ x=.pointer (some ⟨g,off,none⟩)) (hy:ρ y=v) (hi:(P.info? ty).map (·.size)=some 1) (hp:(cat pre).size=off) (h1:v.oneCell'=true) (hcs:v.cells=#[v]) :
    (execOp ρ o).run P w=.ok .skip (w.setRow g (cat (pre++([#[v]]++post)))):=by
  subst hp
  have hs:Nat.blt (cat pre).size (cat (pre++([#[u]]++post))).size=true:=by
    have:(cat pre).size<(cat (pre++([#[u]]++post))).size:=by
      rw [Qa5,Qa5,qS,qS]
      have e1:(cat [#[u]]).size=1:=rfl
      omega
    simpa using this
  have e:(cat (pre++([#[u]]++post))).setIfInBounds (cat pre).size v=cat (pre++([#[v]]++post)):=by
    rw [Qa5,Qa5,Qa5,Qa5]
    have e1:∀ z,cat [#[z]]=#[z]:=fun z=>rfl
    rw [e1,e1,za3 (qR _),Nat.sub_self,za4 (by simp)]
    rfl
  rw [←e]
  exact QbU ty x y g _ t _ v hg ho hx hy hi hs h1 hcs
theorem wrapN (m : Nat):zac.wrap ((m:Nat):Int)=((m%18446744073709551616:Nat):Int):=by rw [zad]; omega
theorem Qki (pl : Nat→Option (Nat×Nat)):∀ (ps:List (Nat×Nat×Value×Array Value)) (pre:List (Array Value)) (rest:Array Value) (off:Nat),(cat pre).size=off→okPl pl off ps→tot ps≤rest.size →
    Instr.fill pl (cat pre++rest) (ps.map fun x=>(x.1,x.2.2.1))=some (cat (pre++ps.map fun x=>x.2.2.2)++rest.extract (tot ps) rest.size)
  | [],pre,rest,off,_,_,ht=>by
    simp [Instr.fill,tot]
  | (i,n,v,p)::r,pre,rest,off,hoff,⟨h1,h2,h3,h4⟩,ht=>by
    subst h2
    have hn:n≤rest.size:=by rw [tot] at ht; omega
    simp only [List.map_cons,Instr.fill,h1,h3]
    rw [if_neg (by simp; omega)]
    have hz:(v.cells.zipIdx.foldl (fun cs (x:Value×Nat)=>cs.setIfInBounds (off+x.2) x.1) (cat pre++rest))=cat (pre++[v.cells])++rest.extract n rest.size:=by
      have e1:v.cells.zipIdx=(v.cells.toList.zipIdx 0).toArray:=by
        apply zaA
        simp
      rw [e1,List.foldl_toArray',Qet]
      · have e2:rest=rest.extract 0 n++rest.extract n rest.size:=by
          rw [Array.extract_append_extract,Nat.max_eq_right hn]
          simp
        have e3:(cat pre++rest)=cat (pre++([rest.extract 0 n]++[rest.extract n rest.size])):=by
          rw [Qa5]
          congr 1
        rw [Nat.add_zero,e3]
        have:=Qf8 pre [rest.extract 0 n] [v.cells] [rest.extract n rest.size] off hoff (by show v.cells.size=(rest.extract 0 n).size; simp; omega)
        rw [show (cat [v.cells]).toList=v.cells.toList from rfl] at this
        rw [this,←zaG,Qa5 (pre++[v.cells])]
        rfl
      · rfl
    have key:=Qki pl r (pre++[v.cells]) (rest.extract n rest.size) (off+n) (by rw [Qa5]; show (cat pre++v.cells).size=_; simp; omega) h4 (by rw [tot] at ht; simp; omega)
    rw [←hz] at key
    rw [zaG] at key
    rw [key,tot]
    congr 2
    rw [Array.extract_extract]
    simp
    congr 1
    rw [tot] at ht
    omega
theorem Qfu {P : Program} {ρ:Operand→Value} {o:Oper} {w:World} (t:TypeId) (parts:Array (Nat×Operand)) (z:Value) (places:Array (Nat×Nat)) (off:Nat) (pre:List (Array Value)) (rest0:Array Value) (ps:List (Nat×Nat×Value×Array Value)) (rest:List (Array Value))
    (ho:o.op=.build t parts) (hv:(parts.map fun (i,x)=>(i,ρ x)).toList=ps.map fun x=>(x.1,x.2.2.1)) (hoff:(cat pre).size=off) (hp:okPl (fun i=>places[i]?) off ps) (hz0:z.cells=cat pre++rest0) (ht:tot ps≤rest0.size) (hr:rest0.extract (tot ps) rest0.size=cat rest)
    (hz:(zeroValue t).run P w=.ok z w) (hu:P.underlying t=some (.struct (P.fieldsOf t))) (hm:((P.fieldsOf t).mapM fun f=>do pure (f.offset,←sizeOf f.type):Sem (Array (Nat×Nat))).run P w=.ok places w) :
    (execOp ρ o).run P w=.ok (.value (.agg (cat (pre++(ps.map fun x=>x.2.2.2)++rest)))) w:=by
  have:=Qki (fun i=>places[i]?) ps pre rest0 off hoff hp ht
  rw [←hz0,hr,←Qa5] at this
  rw [←hv] at this
  have hB:(Instr.build t (parts.map fun (i,x)=>(i,ρ x))).run P w=.ok (.agg (cat (pre++(ps.map fun x=>x.2.2.2)++rest))) w:=by
    unfold Instr.build
    rw [za7,hz,za9,za7,run_underlying hu w,za9]
    show (Sem.run P _ w)=_
    rw [za7,hm,za9]
    simp only [this]
    rfl
  unfold execOp
  simp only [ho,za7,hB,za9,za8]
def nonV (n : Nat):List Int:=[0,0,0,0]++by8 ((n:Nat):Int)
theorem QjT (n : Nat):(nonV n).length=12:=by unfold nonV; rw [zaH,QdJ]; rfl
theorem Qos (n0 n:Nat) (w:World) (h0:n0≤w.heap.size):Calls Tryz.prog 101 #[.int .i64 ((n:Nat):Int)] w (QcL w (OwnN .u8 5 n0 (nonV n))) :=
  (Qqp n w).mono fun e W' hg=>by
    obtain ⟨v',e1,e2,e3⟩:=hg
    exact ⟨v',e1,e2,e3.base h0⟩
theorem QpE (key nonce ctx text fs:List Int) (es:Qc0 key nonce ctx text=fs) (v v2 v3:Value) (B B2 B3:Nat) (th tq:TypeId) (w:World) (hh:w.heap[2]? = some (.cells (ints .u32 qH) th)) (hq:w.heap[3]? = some (.cells (ints .i64 qQ) tq)) (hkl:key.length=32) (hn:RdK .u8 B nonce v w) (hc:RdK .u8 B2 ctx v2 w) (ht:RdK .u8 B3 fs v3 w) (hcb:Qaf ctx) (htb:Qaf text) (h:nonce.length=12) (hcl:ctx.length≤1048576) (hxl:text.length≤1048576) :
    Calls Tryz.prog 81 #[.agg (ints .u8 key),v,v2,v3] w (QcL w (MixR w.heap.size text)):=by
  subst es
  exact QmO key nonce ctx text v v2 v3 B B2 B3 th tq w hh hq hkl hn hc ht hcb htb h hcl hxl
end Ll
end
section
namespace Ci
open Go Go.RowKit
open Rely Auto Own Sha Sha
open Cha
open Ae hiding run_storeQ
open Ll hiding run_storeQ
theorem QnG (k : IntKind) (a b:List Int):ints k (a++b)=ints k a++ints k b:=by
  apply zaA
  simp [ints]
theorem Qp6 {k : IntKind} {cur:Array Value} {xs:List Int} (n:Nat) (h:cur.toList.take xs.length=xs.map (zav k)):cur=cat [ints k (xs.take n),ints k (xs.drop n),(cur.toList.drop xs.length).toArray]:=by
  apply zaA
  have e:(cat [ints k (xs.take n),ints k (xs.drop n),(cur.toList.drop xs.length).toArray]).toList=xs.map (zav k)++cur.toList.drop xs.length:=by
    have:ints k (xs.take n)++ints k (xs.drop n)=ints k xs:=by rw [←QnG,zaR]
    rw [Qab,Qab,Qab,←Array.append_assoc,this]
    simp [cat,ints]
  rw [e,←h,zaR]
theorem QiY {P : Program} {ρ:Operand→Value} {o:Oper} {w:World} (t:TypeId) (x z:Operand) (l g len cap:Nat) (e:TypeId) (ho:o.op=.slice t x (some z) none none) (hx:ρ x=.slice (some ⟨g,0,none⟩) len cap)
    (hu:P.underlying t=some (.slice e)) (hs:(P.info? e).map (·.size)=some 1) (kz:IntKind) (hz:ρ z=.int kz (l:Int)) (h1:l≤len) (h2:len≤cap) (h3:cap≠l) :
    (execOp ρ o).run P w=.ok (.value (.slice (some ⟨g,l,none⟩) (len-l) (cap-l))) w:=by
  have h:=QgG (w:=w) t x z l g len cap e ho hx hu hs kz hz h1 h2
  rwa [if_neg h3] at h
theorem Qfn {z : List Int} (h:z.length=64):(z.take 32).length=32:=by rw [zaq,h]; rfl
theorem Qgh {z : List Int} (h:z.length=64):(z.drop 32).length=32:=by rw [za5,h]
def twA (z : List Int):List Int:=(kx z [] 64).take 32
def twB (z : List Int):List Int:=(kx z [] 64).drop 32
theorem QaJ (z : List Int):(twA z).length=32:=Qfn (Qmf z [] 64)
theorem QaN (z : List Int):(twB z).length=32:=Qgh (Qmf z [] 64)
theorem QdK (z : List Int):Qaf (twA z):=fun x hx=>Qn6 z [] 64 x (List.mem_of_mem_take hx)
theorem Qhq (W : World):RdK .u8 W.heap.size [] (.slice none 0 0) W:=zbf (QjO .u8 5 W.heap.size W)
theorem Qh7 (g : Nat) {Tg:TypeId} {tl:Array Value} (key chain hash:List Int) (has:Bool) (num:Int) (gp n:Nat) (Tp:TypeId) (ps:List (Value×List Int)) (hn:ps.length=n) (hn9:n≤1000000) (tc tq:TypeId) (w:World) (hkl:key.length=32) (hcl:chain.length=32) (hhl:hash.length=32) (hhb:Qaf hash) (hc:w.heap[1]? = some (.cells (ints .u64 QbI) tc)) (hq:w.heap[0]? = some (.cells (ints .u64 Qbf) tq)) (hg:w.heap[g]? = some (.cells (cat [ints .u8 (key),#[.bool has],#[.int .i64 num],ints .u8 (chain),ints .u8 (hash),tl]) Tg)) (hrow:w.heap[gp]? = some (.cells (ps.map Prod.fst).toArray Tp)) (hps:∀ p∈ps,RdK .u8 w.heap.size p.2 p.1 w∧Qaf p.2) (hlen:((ps.map Prod.snd).flatten).length≤800000000) :
  Calls Tryz.prog 28 #[.pointer (some ⟨g,0,none⟩),.slice (some ⟨gp,0,none⟩) n n] w (fun e W=>e=.returned (.tuple #[])∧ExtB g w W∧W.heap[g]? = some (.cells (cat [ints .u8 (key),#[.bool has],#[.int .i64 num],ints .u8 (chain),ints .u8 (dig (hash++(ps.map Prod.snd).flatten)),tl]) Tg)):=by
 refine enter 31 [(0,.pointer (some ⟨g,0,none⟩)),(1,.slice (some ⟨gp,0,none⟩) n n)] Tryz.func28 rfl rfl kj rfl <| wp_seq_k fun K5 hK5=>sgB kj <| cond_false kj <| wp_skip <| hK5 _ _ <| sgC fun K7 hK7=>Qaw (fun v W'=>(fun v W=>∃ g,v=.pointer (some ⟨g,0,none⟩)∧w.heap.size≤g∧HasD g [] W) v W'∧Ext w W') 42 #[] 9 rfl kj kj ((newC tq _ hq).mono (by rintro e w' ⟨v,rfl,e1,hv⟩; exact ⟨v,rfl,hv,e1⟩)) fun vv8 W1 hh8=>?_
 obtain ⟨hv8,e1⟩:=hh8
 obtain ⟨gd9,rfl,ld9,hD9⟩:=hv8
 have b9:=qT (zaT w).size ld9
 refine sg 1 kj <| sgN hK7 <| sgC fun K10 hK10=>sg 5 kj ?_
 have r1_1:=(Qaa hc e1)
 have r4_1:=(Qaa hg e1)
 refine Qaw (fun v W'=>v=.tuple #[]∧ExtB gd9 W1 W'∧HasD gd9 hash W') 43 #[.pointer (some ⟨gd9,0,none⟩),.slice (some ⟨g,66,none⟩) 32 32] 15 rfl kj kj ((addC gd9 _ [] hash (.slice (some ⟨g,66,none⟩) 32 32) tc _ r1_1 (Nat.ne_of_lt (qL (Qa7 hc) b9)) (.inr (fun e=>(Qad hg ld9) (Option.some.inj e))) hhb (by rw [hhl]; decide) (hD9) (QdZ 66 hhl r4_1 (fun i hi=>QdF [ints .u8 (key),#[.bool has],#[.int .i64 num],ints .u8 (chain)] [tl] hash 66 i (66+i) (by rw [Qab,Qab,Qab,Qab]; simp only [qS,cat,(izT hcl),(izT hkl)]; rfl) rfl (by rw [hhl]; exact hi)) (Qa7 r4_1) (qR _) (by decide))).mono fun e w' h=>⟨_,h.1,rfl,h.2⟩) fun v W2 h=>?_
 obtain ⟨rfl,q2,hDp⟩:=h
 refine sgN hK10 <| wp_seq_k fun K11 hK11=>sgB kj <| wp_block <| QaT (fun (s1:Nat)=>[(16,.slice (some ⟨gp,0,none⟩) n n),(17,.int .i64 ((n:Nat):Int)),(18,.int .i64 ((s1:Nat):Int)),(4,.pointer (some ⟨gd9,0,none⟩)),(0,.pointer (some ⟨g,0,none⟩))]) (fun (s1:Nat) W=>(s1≤n)∧(HasD gd9 (hash++flat ps s1) W)∧(Qa0 [gd9] W2 W)∧(Ext w W)) (fun (s1:Nat)=>n-s1) 0 ⟨kj,kj,kj,kj,kj,trivial⟩ ⟨(zap _),(show HasD _ (hash++flat ps 0) _ from (zaI hash).symm▸hDp),(zbh [gd9] W2),(zbc (zaX (zaT w) e1) q2 b9)⟩ fun s1 X1 V1 hI1=>?_
 obtain ⟨i,hs1⟩:∃ z,z=s1:=⟨_,rfl⟩
 subst hs1
 obtain ⟨hi,hDi,kk1,xx1⟩:=hI1
 replace hi:i≤n:=hi
 replace hDi:HasD gd9 (hash++flat ps i) V1:=hDi
 replace kk1:Qa0 [gd9] W2 V1:=kk1
 replace xx1:Ext w V1:=xx1
 have q3:=kk1
 refine sgB kj <| wp_seq_k fun K14 hK14=>QaC (t:=decide (((i:Nat):Int)<((n:Nat):Int))) kj (fun c15=>?_) (fun c15=>?_)
 ·skip
  have hlt19:i<n:=by have:=of_decide_eq_true c15; omega
  refine wp_skip <| hK14 _ _ <| wp_seq_k fun K16 hK16=>wp_block <| sgC fun K17 hK17=>?_
  have hi2:i<ps.length:=by omega
  refine Qac (.pointer (some ⟨gp,i,none⟩)) 20 rfl kj (QbN 93 _ _ .i64 i gp n n 24 rfl kj kj kj kj hlt19) <| Qac ((pat ps i).1) 21 rfl kj (Qb5 24 _ _ ((pat ps i).1) (QaO (zbi q3 (zbb q2 (Qaa hrow e1) (Qad hrow ld9)) (Qbd (Qad hrow ld9) Qbr)) (QlH hi2)) rfl kj kj) <| sg 1 kj <| sgN hK17 <| Qao <| sg 2 kj ?_
  have r1_2:=(zbb q2 r1_1 (Qad hc ld9))
  have r1_3:=(zbi q3 r1_2 (Qbd (Qad hc ld9) Qbr))
  have hp6:=(hps _ (Qfy hi2)).1.ext xx1
  have hl6:=Qjw hi2
  refine Qaw (fun v W'=>v=.tuple #[]∧ExtB gd9 V1 W'∧HasD gd9 ((hash++flat ps i)++(pat ps i).2) W') 43 #[.pointer (some ⟨gd9,0,none⟩),(pat ps i).1] 24 rfl kj kj ((addC gd9 _ _ _ _ tc _ r1_3 (Nat.ne_of_lt (qL (Qa7 hc) b9)) (hp6.nb b9) (hps _ (Qfy hi2)).2 (by rw [zaH,hhl]; omega) hDi hp6).mono fun e w' h=>⟨_,h.1,rfl,h.2⟩) fun v W4 h=>?_
  obtain ⟨rfl,q4,hDn⟩:=h
  have x4:=zbc xx1 q4 b9
  refine Qaz <| hK16 _ _ <| Qao <| Qac (.int .i64 ((i+1:Nat):Int)) 25 rfl kj (Qam (u:=.int .i64 (zat.wrap (((i:Nat):Int)+1))) kj (congrArg (zav .i64) (i64n _ _ (by omega) (by omega)))) <| sg 1 kj <| Qaz ?_
  repeat (first | with_reducible refine goX1 ?_ | with_reducible refine goX2 ?_ | with_reducible refine goX3 ?_)
  exact QaL (i+1) ⟨kj,kj,kj,kj,kj,trivial⟩ ⟨(by omega),(by rw [Qfh hi2,←zaG]; exact hDn),(Qa0.but q3 q4 (.inl (by simp))),x4⟩ (by omega)
 ·skip
  have heq19:i=n:=by have:=of_decide_eq_false c15; omega
  refine wp_exit <| hK11 _ _ <| Qao <| sg 2 kj ?_
  have r1_2:=(zbb q2 r1_1 (Qad hc ld9))
  have r1_3:=(zbi q3 r1_2 (Qbd (Qad hc ld9) Qbr))
  refine Qas (.agg (ints .u8 (dig (hash++flat ps i)))) 44 #[.pointer (some ⟨gd9,0,none⟩)] 28 rfl kj kj (sumC gd9 _ tc _ r1_3 (by rw [heq19,QdP hn,zaH,hhl]; omega) hDi) fun W4 e4=>?_
  have x4:=zaX xx1 e4
  refine sg 2 kj ?_
  have xb4:=zaZ (zaY g w) x4
  have r4_4:=(Qaa (zbi q3 (zbb q2 r4_1 (Qad hg ld9)) (Qbd (Qad hg ld9) Qbr)) e4)
  refine Qai g _ (cat [ints .u8 (key),#[.bool has],#[.int .i64 num],ints .u8 (chain),ints .u8 (dig (hash++flat ps i)),tl]) Tg r4_4 rfl kj (Qbm 35 _ _ g 66 Tg [ints .u8 (key),#[.bool has],#[.int .i64 num],ints .u8 (chain)] [ints .u8 (hash)] [ints .u8 (dig (hash++flat ps i))] [tl] r4_4 rfl kj kj (isz (n:=32) kj (izT (QaV _))) (by rw [Qab,Qab,Qab,Qab]; simp only [qS,cat,(izT hcl),(izT hkl)]; rfl) (eqsz (n:=32) (izT (QaV _)) (izT hhl)) (ints_one _ _)) fun W5 p5 r4_5=>?_
  refine Qaz ?_
  repeat (first | with_reducible refine goX1 ?_ | with_reducible refine goX2 ?_ | with_reducible refine goX3 ?_)
  exact (show bodyPost _ _ _ .normal _ _ from end0 rfl ⟨rfl,(zba xb4 p5),by have h:=r4_5; rw [heq19,QdP hn] at h; exact h⟩)
end Ci
end
section
namespace Ci
open Go Go.RowKit
open Rely Auto Own Sha Sha
open Cha
open Ae hiding run_storeQ
open Ll hiding run_storeQ
theorem run_sap {P : Program} {ρ:Operand→Value} {o:Oper} {w:World} (t:TypeId) (x:Operand) (n:Nat) (e:TypeId) {a:Option Addr} {len cap:Nat} (ho:o.op=.sliceToArrayPointer t x) (hx:ρ x=.slice a len cap) (hu:P.underlying t=some (.array n e)) (h:n≤len) :
    (execOp ρ o).run P w=.ok (.value (.pointer a)) w:=by
  unfold execOp
  simp [ho,hx,Instr.arrayAt,run_underlying hu,Nat.not_lt.2 h]
theorem twoC (z : List Int) (tc tq:TypeId) (w:World) (hzl:z.length=32) (hzb:Qaf z) (hc:w.heap[1]? = some (.cells (ints .u64 QbI) tc)) (hq:w.heap[0]? = some (.cells (ints .u64 Qbf) tq)):Calls Tryz.prog 55 #[.agg (ints .u8 z)] w (Ret w (.tuple #[.agg (ints .u8 (twA z)),.agg (ints .u8 (twB z))])):=by
  refine enter 23 [(0,.agg (ints .u8 (z)))] Tryz.func55 rfl rfl kj rfl <| sgC fun K3 hK3=>Qak (ints .u8 (z)) 35 1 rfl kj kj fun g4 W1 l4 e1 r4_1=>?_
  have x1:=zaX (zaT w) e1
  have b4:=qT (zaT w).size l4
  refine Qak (ints .u8 (zaN 32 0)) 23 2 rfl kj kj fun g5 W2 l5 e2 r5_2=>?_
  have x2:=zaX x1 e2
  refine Qak (ints .u8 (zaN 32 0)) 23 3 rfl kj kj fun g6 W3 l6 e3 r6_3=>?_
  have x3:=zaX x2 e3
  refine sgN hK3 <| sgC fun K7 hK7=>sg 1 kj ?_
  have r4_3:=(Qaa (Qaa r4_1 e2) e3)
  refine Qaw (fun v W'=>(fun v W=>∃ u,v=.tuple #[u,.nilIface]∧OwnN .u8 5 W3.heap.size (kx z [] 64) u W) v W'∧Ext W3 W') 83 #[.slice (some ⟨g4,0,none⟩) 32 32,.slice none 0 0,.int .i64 64] 8 rfl kj kj ((Qn8 z [] _ _ _ _ 64 tc tq _ (Qaa (Qaa (Qaa hc e1) e2) e3) (Qaa (Qaa (Qaa hq e1) e2) e3) (by decide) (by rw [hzl]; decide) (by decide) hzb (fun x hx=>by cases hx) (Qb8 (xs:=z) (n:=32) hzl r4_3 (Qa7 r4_3) (show 32≤maxLen from by decide)) (Qhq _)).mono (by rintro e w' ⟨v,rfl,e1,hv⟩; exact ⟨v,rfl,hv,e1⟩)) fun vv9 W4 hh9=>?_
  obtain ⟨hv9,e4⟩:=hh9
  obtain ⟨u,rfl,hu⟩:=hv9
  have hl0:=Qmf z [] 64
  obtain ⟨ek,hek⟩:∃ y,y=kx z [] 64:=⟨_,rfl⟩
  rw [←hek] at hu hl0
  obtain ⟨gk,ck,cur,ev,lk,rk0,zk,nk,mk_,tk⟩:=QlJ hu (by rw [hl0]; decide)
  rw [hl0] at ev nk
  subst ev
  obtain ⟨rst,hrst⟩:∃ y,y=(cur.toList.drop ek.length).toArray:=⟨_,rfl⟩
  have rk:W4.heap[gk]? = some (.cells (cat [ints .u8 (ek.take 32),ints .u8 (ek.drop 32),rst]) 5):=by rw [hrst,←Qp6 32 tk]; exact rk0
  have bk:w.heap.size≤gk:=qT x3.size lk
  refine sg 5 kj <| sgN hK7 <| wp_seq_k fun K11 hK11=>sgB kj <| cond_false kj <| wp_skip <| hK11 _ _ <| wp_seq_k fun K13 hK13=>QbB (fun W=>W.heap[gk]? = some (.cells (cat [ints .u8 (ek.take 32),ints .u8 (ek.drop 32),rst]) 5)) [⟨none,[(4,none)]⟩,⟨none,[(15,some 0)]⟩,⟨none,[(16,some 1)]⟩,⟨none,[(17,some 2)]⟩,⟨none,[(4,none)]⟩,⟨none,[(19,some 4)]⟩,⟨none,[(20,some 5)]⟩,⟨none,[(21,some 6)]⟩,⟨none,[(2,none),(18,some 3)]⟩,⟨none,[(3,none),(22,some 7)]⟩] [] [4,5,6,7] kj kj kj (fun W hR=>Qaa rk hR) fun F hF=>QaY (.slice (some ⟨gk,0,none⟩) 64 ck) kj kj rfl (fun _=>kj) ?_
  refine QaY (.slice (some ⟨gk,0,none⟩) 32 ck) kj kj rfl (fun W=>(QgH (len:=64) 24 _ _ 32 5 rfl kj kj kj .i64 kj (qT (by decide) nk))) <| QaY (.pointer (some ⟨gk,0,none⟩)) kj kj rfl (fun W=>(run_sap (len:=32) (cap:=ck) (a:=some ⟨gk,0,none⟩) 23 _ 32 5 rfl kj kj (by decide))) <| Qbz (.agg (ints .u8 (ek.take 32))) kj kj kj rfl (fun W hR=>(Qan 23 _ gk 0 5 _ _ _ (Qaa (Qaa rk (Qah _)) hR) rfl kj (Qaq [] [ints .u8 (ek.take 32)] [ints .u8 (ek.drop 32),rst] 0 kj) kj (isz (n:=32) kj (izT (Qfn hl0))))) <| QaY (.slice (some ⟨gk,0,none⟩) 64 ck) kj kj rfl (fun _=>kj) <| QaY (.slice (some ⟨gk,32,none⟩) (64-32) (ck-32)) kj kj rfl (fun W=>(QiY 24 _ _ 32 gk 64 ck 5 rfl kj kj kj .i64 kj (by decide) nk (by omega))) <| QaY (.pointer (some ⟨gk,32,none⟩)) kj kj rfl (fun W=>(run_sap (len:=64-32) (cap:=ck-32) (a:=some ⟨gk,32,none⟩) 23 _ 32 5 rfl kj kj (by decide))) <| QdH (.agg (ints .u8 (ek.drop 32))) kj kj kj rfl (fun W hW=>(Qan 23 _ gk 32 5 _ _ _ hW rfl kj (Qaq [ints .u8 (ek.take 32)] [ints .u8 (ek.drop 32)] [rst] 32 (izT (Qfn hl0))) kj (isz (n:=32) kj (izT (Qgh hl0))))) <| Qb0 rfl <| Qb0 rfl <| QeY (hF _ kj fun W5 e5=>?_)
  simp only [zam,zan,fins,up]
  clear hF
  have r5_3:=(Qaa r5_2 e3)
  have r5_5:=(Qaa (Qaa r5_3 e4) e5)
  have r10_5:=(Qaa rk e5)
  refine Qbv _ g5 _ (ints .u8 (ek.take 32)) 23 r5_5 rfl (Qag 23 _ _ g5 23 _ _ r5_5 rfl kj kj (isz (n:=32) kj (izT (Qfn hl0))) (eqsz (n:=32) (izT (qZ (n:=32))) (izT (Qfn hl0))) (ints_one _ _)) (fun W hp=>zaV hp r10_5 (Qap r5_3 lk)) fun W6 p6 r5_6=>?_
  have r6_6:=(zaV p6 (Qaa (Qaa r6_3 e4) e5) (Qap r5_2 l6))
  refine Qbv _ g6 _ (ints .u8 (ek.drop 32)) 23 r6_6 rfl (Qag 23 _ _ g6 23 _ _ r6_6 rfl kj kj (isz (n:=32) kj (izT (Qgh hl0))) (eqsz (n:=32) (izT (qZ (n:=32))) (izT (Qgh hl0))) (ints_one _ _)) (fun W hp=>zaV hp (zaV p6 r10_5 (Qap r5_3 lk)) (Qap r6_3 lk)) fun W7 p7 r6_7=>Qd8 <| hK13 _ _ <| wp_ret ?_
  repeat (first | with_reducible refine goR1 ?_ | with_reducible refine goR2 ?_)
  exact (show bodyPost _ _ _ .ret _ _ from ret2 (.agg (ints .u8 (ek.take 32))) (.agg (ints .u8 (ek.drop 32))) rfl (QaU g5 23 _ (zaV p7 r5_6 (Qad r5_2 l6)) kj kj (isz (n:=32) kj (izT (Qfn hl0)))) (QaU g6 23 _ r6_7 kj kj (isz (n:=32) kj (izT (Qgh hl0)))) ⟨by rw [hek]; rfl,(zaW p7 (zaW p6 (zaX (zaX x3 e4) e5) (qT x1.size l5)) (qT x2.size l6))⟩)
theorem QkK (g : Nat) {Tg:TypeId} {tl:Array Value} (key chain hash:List Int) (has:Bool) (num:Int) (sec:List Int) (v:Value) (B:Nat) (tc tq:TypeId) (w:World) (hkl:key.length=32) (hcl:chain.length=32) (hhl:hash.length=32) (hcb:Qaf chain) (hsb:Qaf sec) (hsl:sec.length≤800000000) (hc:w.heap[1]? = some (.cells (ints .u64 QbI) tc)) (hq:w.heap[0]? = some (.cells (ints .u64 Qbf) tq)) (hg:w.heap[g]? = some (.cells (cat [ints .u8 (key),#[.bool has],#[.int .i64 num],ints .u8 (chain),ints .u8 (hash),tl]) Tg)) (hs:RdK .u8 B sec v w) :
    Calls Tryz.prog 74 #[.pointer (some ⟨g,0,none⟩),v] w (fun e W=>e=.returned (.tuple #[])∧ExtB g w W∧W.heap[g]? = some (.cells (cat [ints .u8 (twB (hmac chain sec)),#[.bool true],#[.int .i64 0],ints .u8 (twA (hmac chain sec)),ints .u8 (hash),tl]) Tg)):=by
  obtain ⟨a_s,c_s,rfl,-⟩:=id hs
  refine enter 29 [(0,.pointer (some ⟨g,0,none⟩)),(1,.slice a_s sec.length c_s)] Tryz.func74 rfl rfl kj rfl <| wp_seq_k fun K4 hK4=>sgB kj <| cond_false kj <| wp_skip <| hK4 _ _ <| sgC fun K6 hK6=>sg 5 kj <| Qas (.agg (ints .u8 (hmac chain sec))) 99 #[.slice (some ⟨g,34,none⟩) 32 32,.slice a_s sec.length c_s] 14 rfl kj kj (QnN chain sec _ _ _ _ tc tq _ hc hq (by rw [hcl]; decide) hsl hcb hsb (QdZ 34 hcl hg (fun i hi=>QdF [ints .u8 (key),#[.bool has],#[.int .i64 num]] [ints .u8 (hash),tl] chain 34 i (34+i) (by rw [Qab,Qab,Qab]; simp only [qS,cat,(izT hkl)]; rfl) rfl (by rw [hcl]; exact hi)) (Qa7 hg) (qR _) (by decide)) (zbe hs (zaT w))) fun W1 e1=>?_
  have x1:=zaX (zaT w) e1
  refine Qak (ints .u8 (zaN 32 0)) 35 4 rfl kj kj fun g7 W2 l7 e2 r7_2=>Qai g7 _ (ints .u8 (hmac chain sec)) 35 r7_2 rfl kj (Qag 35 _ _ g7 35 _ _ r7_2 rfl kj kj (isz (n:=32) kj (izT (QbT _ _))) (eqsz (n:=32) (izT (qZ (n:=32))) (izT (QbT _ _))) (ints_one _ _)) fun W3 p3 r7_3=>sgN hK6 <| sgC fun K8 hK8=>Qac (.agg (ints .u8 (hmac chain sec))) 16 rfl kj (Qae 35 _ g7 35 _ _ r7_3 rfl kj kj (isz (n:=32) kj (izT (QbT _ _)))) ?_
  have r1_1:=(Qaa hc e1)
  have r2_1:=(Qaa hq e1)
  refine Qas (.tuple #[.agg (ints .u8 (twA (hmac chain sec))),.agg (ints .u8 (twB (hmac chain sec)))]) 55 #[.agg (ints .u8 (hmac chain sec))] 17 rfl kj kj (twoC (hmac chain sec) tc tq _ (QbT _ _) (QgW _ _) (rpn p3 r1_1 e2 l7) (rpn p3 r2_1 e2 l7)) fun W4 e4=>?_
  have x4:=zaX (zaW p3 (zaX x1 e2) (qT x1.size l7)) e4
  refine sg 3 kj <| Qak (ints .u8 (zaN 32 0)) 23 5 rfl kj kj fun g9 W5 l9 e5 r9_5=>?_
  have x5:=zaX x4 e5
  refine Qak (ints .u8 (zaN 32 0)) 23 6 rfl kj kj fun g10 W6 l10 e6 r10_6=>?_
  have r9_6:=(Qaa r9_5 e6)
  refine Qai g9 _ (ints .u8 (twA (hmac chain sec))) 23 r9_6 rfl kj (Qag 23 _ _ g9 23 _ _ r9_6 rfl kj kj (isz (n:=32) kj (izT (QaJ _))) (eqsz (n:=32) (izT (qZ (n:=32))) (izT (QaJ _))) (ints_one _ _)) fun W7 p7 r9_7=>?_
  have r10_7:=(zaV p7 r10_6 (Qap r9_5 l10))
  refine Qai g10 _ (ints .u8 (twB (hmac chain sec))) 23 r10_7 rfl kj (Qag 23 _ _ g10 23 _ _ r10_7 rfl kj kj (isz (n:=32) kj (izT (QaN _))) (eqsz (n:=32) (izT (qZ (n:=32))) (izT (QaN _))) (ints_one _ _)) fun W8 p8 r10_8=>sgN hK8 <| sgC fun K11 hK11=>sg 1 kj <| Qac (.agg (ints .u8 (twA (hmac chain sec)))) 21 rfl kj (Qae 23 _ g9 23 _ _ (zaV p8 r9_7 (Qad r9_5 l10)) rfl kj kj (isz (n:=32) kj (izT (QaJ _)))) <| sg 2 kj ?_
  have xb8:=zaZ (zaY g w) (zaW p8 (zaW p7 (zaX x5 e6) (qT x4.size l9)) (qT x5.size l10))
  have r3_1:=(Qaa hg e1)
  have r3_4:=(Qaa (rpn p3 r3_1 e2 l7) e4)
  have r3_5:=(Qaa r3_4 e5)
  have r3_8:=(zaV p8 (zaV p7 (Qaa r3_5 e6) (Qad r3_4 l9)) (Qad r3_5 l10))
  refine Qai g _ (cat [ints .u8 (key),#[.bool has],#[.int .i64 num],ints .u8 (twA (hmac chain sec)),ints .u8 (hash),tl]) Tg r3_8 rfl kj (Qbm 35 _ _ g 34 Tg [ints .u8 (key),#[.bool has],#[.int .i64 num]] [ints .u8 (chain)] [ints .u8 (twA (hmac chain sec))] [ints .u8 (hash),tl] r3_8 rfl kj kj (isz (n:=32) kj (izT (QaJ _))) (by rw [Qab,Qab,Qab]; simp only [qS,cat,(izT hkl)]; rfl) (eqsz (n:=32) (izT (QaJ _)) (izT hcl)) (ints_one _ _)) fun W9 p9 r3_9=>?_
  refine sgN hK11 <| Qao <| sg 1 kj <| Qac (.agg (ints .u8 (twB (hmac chain sec)))) 25 rfl kj (Qae 23 _ g10 23 _ _ (zaV p9 r10_8 (Qap r3_5 l10)) rfl kj kj (isz (n:=32) kj (izT (QaN _)))) <| Qac (.agg (cat [ints .u8 (twB (hmac chain sec)),#[.bool true],#[.int .i64 0]])) 26 rfl kj (Qfu 69 _ (.agg (cat [ints .u8 (zaN 32 0),#[.bool false],#[.int .i64 0]])) #[(0,32),(32,1),(33,1)] 0 [] (cat [ints .u8 (zaN 32 0),#[.bool false],#[.int .i64 0]]) [(0,32,.agg (ints .u8 (twB (hmac chain sec))),ints .u8 (twB (hmac chain sec))),(1,1,.bool true,#[.bool true])] [#[.int .i64 0]] rfl kj rfl ⟨kj,rfl,(izT (QaN _)),kj,rfl,kj,trivial⟩ kj (Nat.le_of_ble_eq_true kj) kj kj kj kj) <| sg 2 kj <| Qai g _ (cat [ints .u8 (twB (hmac chain sec)),#[.bool true],#[.int .i64 0],ints .u8 (twA (hmac chain sec)),ints .u8 (hash),tl]) Tg r3_9 rfl kj (Qbm 69 _ _ g 0 Tg [] [ints .u8 (key),#[.bool has],#[.int .i64 num]] [ints .u8 (twB (hmac chain sec)),#[.bool true],#[.int .i64 0]] [ints .u8 (twA (hmac chain sec)),ints .u8 (hash),tl] r3_9 rfl kj kj (isz (n:=34) kj (by rw [Qab,Qab,Qab]; simp only [qS,cat,(izT (QaN _))]; rfl)) kj (eqsz (n:=34) (by rw [Qab,Qab,Qab]; simp only [qS,cat,(izT (QaN _))]; rfl) (by rw [Qab,Qab,Qab]; simp only [qS,cat,(izT hkl)]; rfl)) (Qch _ (by intro a ha; simp only [List.mem_cons,List.not_mem_nil,or_false] at ha; rcases ha with rfl | rfl | rfl; exact (ints_one _ _); exact (QbE _ rfl); exact (QbE _ rfl)))) fun W10 p10 r3_10=>?_
  refine Qaz ?_
  repeat (first | with_reducible refine goX1 ?_ | with_reducible refine goX2 ?_ | with_reducible refine goX3 ?_)
  exact (show bodyPost _ _ _ .normal _ _ from end0 rfl ⟨rfl,(zba (zba xb8 p9) p10),r3_10⟩)
end Ci
end
section
namespace Ci
open Go Go.RowKit
open Rely Auto Own Sha Sha
open Cha
open Ae hiding run_storeQ
open Ll hiding run_storeQ
theorem Qm0 {P : Program} {ρ ρ':Tmp→Value} {o:Oper} {W:World} {r:Result Next} (h:(execOp (Rely.look ρ) o).run P W=(execOp (Rely.look ρ') o).run P W) (h2:(execOp (Rely.look ρ') o).run P W=r):(execOp (Rely.look ρ) o).run P W=r:=h.trans h2
set_option maxRecDepth 100000 in
theorem QpL (g : Nat) {Tg:TypeId} {tl:Array Value} (key chain hash:List Int) (num:Nat) (ctx text fs:List Int) (es:Qc0 key (nonV num) ctx text=fs) (v2 v3:Value) (B2 B3:Nat) (th tq:TypeId) (w:World) (hkl:key.length=32) (hcl:chain.length=32) (hhl:hash.length=32) (hh:w.heap[2]? = some (.cells (ints .u32 qH) th)) (hq:w.heap[3]? = some (.cells (ints .i64 qQ) tq)) (hg:w.heap[g]? = some (.cells (cat [ints .u8 (key),#[.bool true],#[.int .i64 ((num:Nat):Int)],ints .u8 (chain),ints .u8 (hash),tl]) Tg)) (hn:num<4294967295) (hxb:Qaf ctx) (hxl:ctx.length≤1048576) (htl:text.length≤1048576) (hx:RdK .u8 B2 ctx v2 w) (ht:RdK .u8 B3 text v3 w) :
  Calls Tryz.prog 75 #[.pointer (some ⟨g,0,none⟩),.func (.func 76) #[] #[],v2,v3] w (fun e W=>∃ u,e=.returned (.tuple #[u,.nilIface])∧OwnN .u8 5 w.heap.size (fs) u W∧ExtB g w W∧W.heap[g]? = some (.cells (cat [ints .u8 (key),#[.bool true],#[.int .i64 ((num+1:Nat):Int)],ints .u8 (chain),ints .u8 (hash),tl]) Tg)):=by
 obtain ⟨a_c,c_c,rfl,-⟩:=id hx
 obtain ⟨a_t,c_t,rfl,-⟩:=id ht
 refine enter 52 [(0,.pointer (some ⟨g,0,none⟩)),(1,.func (.func 76) #[] #[]),(2,.slice a_c ctx.length c_c),(3,.slice a_t text.length c_t)] Tryz.func75 rfl rfl kj rfl <| sgB kj <| wp_seq_k fun K5 hK5=>sgC fun K6 hK6=>sg 3 kj <| Qac (.bool true) 15 rfl kj (Qaj 4 _ g 32 Tg _ (.bool true) _ hg rfl kj (Qaq [ints .u8 (key)] [#[.bool true]] [#[.int .i64 ((num:Nat):Int)],ints .u8 (chain),ints .u8 (hash),tl] 32 (izT hkl) 0 _ rfl) kj) <| sg 1 kj <| sgN hK6 <| cond_false kj <| wp_skip ?_
 refine hK5 _ _ <| wp_seq_k fun K7 hK7=>sgC fun K8 hK8=>sg 3 kj <| Qac (.int .i64 ((num:Nat):Int)) 22 rfl kj (Qaj 3 _ g 33 Tg _ (.int .i64 ((num:Nat):Int)) _ hg rfl kj (Qaq [ints .u8 (key),#[.bool true]] [#[.int .i64 ((num:Nat):Int)]] [ints .u8 (chain),ints .u8 (hash),tl] 33 (by rw [Qab,Qab]; simp only [qS,cat,(izT hkl)]; rfl) 0 _ rfl) kj) ?_
 refine Qac (.bool false) 23 rfl kj (Qam (u:=.bool ((((num:Nat):Int)==4294967295))) kj (congrArg zaJ (beq_eq_false_iff_ne.2 (by omega)))) <| sgN hK8 <| cond_false kj <| wp_skip <| hK7 _ _ <| wp_seq_k fun K9 hK9=>Qba 17 [⟨none,[(1,none)]⟩,⟨none,[(0,none)]⟩,⟨none,[(27,some 1)]⟩,⟨none,[(28,some 2)]⟩,⟨none,[(29,some 3)]⟩,⟨none,[(0,none)]⟩,⟨none,[(31,some 5)]⟩,⟨none,[(32,some 6)]⟩,⟨none,[(33,some 7)]⟩,⟨none,[(34,some 8)]⟩,⟨none,[(2,none)]⟩,⟨none,[(3,none)]⟩,⟨none,[(26,some 0),(30,some 4),(35,some 9),(36,some 10),(37,some 11)]⟩,⟨none,[(38,some 12)]⟩,⟨none,[(25,some 13)]⟩,⟨none,[(25,some 13)]⟩,⟨none,[(39,some 14)]⟩] kj kj fun F hF=>Qa6 (Qar _) (.func (.func 76) #[] #[]) kj kj (fun _=>kj) <| Qa6 (Qar _) (.pointer (some ⟨g,0,none⟩)) kj kj (fun _=>kj) <| Qa6 (Qar _) (.pointer (some ⟨g,0,none⟩)) kj kj (fun _=>kj) ?_
 refine Qa6 (Qar _) (.pointer (some ⟨g,0,none⟩)) kj kj (fun _=>kj) <| QcF (Qar _) (.agg (ints .u8 (key))) kj kj (fun W hR=>(Qan 23 _ g 0 Tg _ _ _ (Qaa (Qaa hg (Qah _)) hR) rfl kj (Qaq [] [ints .u8 (key)] [#[.bool true],#[.int .i64 ((num:Nat):Int)],ints .u8 (chain),ints .u8 (hash),tl] 0 kj) kj (isz (n:=32) kj (izT hkl)))) <| Qa6 (Qar _) (.pointer (some ⟨g,0,none⟩)) kj kj (fun _=>kj) <| Qa6 (Qar _) (.pointer (some ⟨g,0,none⟩)) kj kj (fun _=>kj) <| Qa6 (Qar _) (.pointer (some ⟨g,33,none⟩)) kj kj (fun _=>kj) <| QcF (Qar _) (.int .i64 ((num:Nat):Int)) kj kj (fun W hR=>(Qaj 3 _ g 33 Tg _ (.int .i64 ((num:Nat):Int)) _ (Qaa (Qaa hg (Qah _)) hR) rfl kj (Qaq [ints .u8 (key),#[.bool true]] [#[.int .i64 ((num:Nat):Int)]] [ints .u8 (chain),ints .u8 (hash),tl] 33 (by rw [Qab,Qab]; simp only [qS,cat,(izT hkl)]; rfl) 0 _ rfl) kj)) ?_
 refine Qgy (Qar _) (OwnN .u8 5 w.heap.size (nonV num)) (zbd _ _ _ _) 101 #[.int .i64 ((num:Nat):Int)] kj kj (fun _=>kj) (fun W hR=>(Qos w.heap.size num _ (zaU (Qah _) hR).size)) <| Qa6 (Qar _) (.slice a_c ctx.length c_c) kj kj (fun _=>kj) <| Qa6 (Qar _) (.slice a_t text.length c_t) kj kj (fun _=>kj) <| Qkj (Qar _) (MixR w.heap.size fs) (Qef _ _) 76 (fun ρ W hR hX=>?_) ?_
 ·skip
  have e30_:ρ 30=.agg (ints .u8 (key)):=hX.2.1
  have q35_:(OwnN .u8 5 w.heap.size (nonV num)) (ρ 35) W:=hX.2.2.1
  obtain ⟨ar35,cr35,e35_,-⟩:=id (zbf q35_)
  have rd35_:=zbf q35_
  rw [e35_] at rd35_
  have e36_:ρ 36=.slice a_c ctx.length c_c:=hX.2.2.2.1
  have e37_:ρ 37=.slice a_t text.length c_t:=hX.2.2.2.2.1
  have e26_:ρ 26=.func (.func 76) #[] #[]:=hX.1
  refine ⟨#[.agg (ints .u8 (key)),.slice ar35 ((nonV num).length) cr35,.slice a_c ctx.length c_c,.slice a_t text.length c_t],Qm0 (ρ':=fun t=>if t=26 then ρ 26 else if t=30 then ρ 30 else if t=35 then ρ 35 else if t=36 then ρ 36 else if t=37 then ρ 37 else ρ t) kj ?_,?_⟩
  ·rw [e26_,e30_,e35_,e36_,e37_]; kernel_rfl
  exact ((QqD key (nonV num) ctx text _ _ _ _ _ _ th tq W (Qaa (Qaa hh (Qah _)) hR) (Qaa (Qaa hq (Qah _)) hR) hkl rd35_ (zbe (zbe hx (zaT w)) (zaU (Qah _) hR)) (zbe (zbe ht (zaT w)) (zaU (Qah _) hR)) hxb (QjT _) hxl htl).mono fun e W2 hg=>by obtain ⟨v2,e1,e2,u,e3,e4⟩:=hg; rw [es] at e4; exact ⟨v2,e1,e2,u,e3,e4.base (zaU (Qah _) hR).size⟩)
 refine Qfk (Qar _) (MixR w.heap.size fs) (Qef _ _) (fun ρ W hR hh=>⟨ρ 38,W,by kernel_rfl,zaT _,(show (MixR w.heap.size fs) (ρ 38) W from hh.1)⟩) <| Qfk (Qar _) (OwnN .u8 5 w.heap.size fs) (zbd _ _ _ _) (fun ρ W hR hh=>?_) ?_
 ·obtain ⟨u,e,h⟩:=(show (MixR w.heap.size fs) (ρ 25) W from hh.1)
  exact ⟨_,W,QdA (.tmp 25) 0 #[u,.nilIface] _ rfl e rfl,zaT _,h⟩
 refine Qfk (Qar _) (fun v W=>v=.nilIface) (fun _ _ _ _ h=>h) (fun ρ W hR hh=>?_) ?_
 ·obtain ⟨u,e,h⟩:=(show (MixR w.heap.size fs) (ρ 25) W from hh.1)
  exact ⟨_,W,QdA (.tmp 25) 1 #[u,.nilIface] _ rfl e rfl,zaT _,rfl⟩
 refine Qfk (Qar _) (OwnN .u8 5 w.heap.size fs) (zbd _ _ _ _) (fun ρ W hR hh=>⟨ρ 39,W,by kernel_rfl,zaT _,(show (OwnN .u8 5 w.heap.size fs) (ρ 39) W from hh.1)⟩) <| Qdr (hF _ fun W1 e1=>?_)
 simp only [zam,zan,zax,zao,zay,zaz,finE,up]
 intro vv10 hv10 vv11 hv11 vv12 hv12 vv13 hv13 vv14 hv14 vv15 hv15
 clear hF
 obtain ⟨a16_,c16_,rfl,-⟩:=id (zbf hv10)
 obtain ⟨a17_,c17_,rfl,-⟩:=id (zbf hv13)
 subst hv14
 obtain ⟨a18_,c18_,rfl,-⟩:=id (zbf hv15)
 refine sg 1 kj <| sgN hK9 <| wp_seq_k fun K19 hK19=>sgB kj <| cond_false kj <| wp_skip <| hK19 _ _ <| sgC fun K21 hK21=>sg 3 kj ?_
 have r3_1:=(Qaa hg e1)
 refine Qac (.int .i64 ((num:Nat):Int)) 47 rfl kj (Qaj 3 _ g 33 Tg _ (.int .i64 ((num:Nat):Int)) _ r3_1 rfl kj (Qaq [ints .u8 (key),#[.bool true]] [#[.int .i64 ((num:Nat):Int)]] [ints .u8 (chain),ints .u8 (hash),tl] 33 (by rw [Qab,Qab]; simp only [qS,cat,(izT hkl)]; rfl) 0 _ rfl) kj) ?_
 refine Qac (.int .i64 ((num+1:Nat):Int)) 48 rfl kj (Qam (u:=.int .i64 (zat.wrap (((num:Nat):Int)+1))) kj (congrArg (zav .i64) (i64n _ _ (by omega) (by omega)))) <| sg 2 kj ?_
 have xb1:=zaZ (zaY g w) (zaX (zaT w) e1)
 refine Qai g _ (cat [ints .u8 (key),#[.bool true],#[.int .i64 ((num+1:Nat):Int)],ints .u8 (chain),ints .u8 (hash),tl]) Tg r3_1 rfl kj (run_storeQ 3 _ _ g 33 Tg [ints .u8 (key),#[.bool true]] [ints .u8 (chain),ints .u8 (hash),tl] _ (.int .i64 ((num+1:Nat):Int)) r3_1 rfl kj kj kj (by rw [Qab,Qab]; simp only [qS,cat,(izT hkl)]; rfl) rfl rfl) fun W2 p2 r3_2=>?_
 refine sgN hK21 <| sgB kj <| wp_ret ?_
 repeat (first | with_reducible refine goR1 ?_ | with_reducible refine goR2 ?_)
 exact (show bodyPost _ _ _ .ret _ _ from ret2 (.slice a18_ ((fs).length) c18_) (.nilIface) rfl (Qa4 kj) (Qa4 kj) ⟨_,rfl,OwnN.base (zaT w).size (hv15.puts p2 (Qei hv15 (Qa7 hg))),(zba xb1 p2),r3_2⟩)
set_option maxRecDepth 100000 in
theorem QpM (g : Nat) {Tg:TypeId} {tl:Array Value} (key chain hash:List Int) (num:Nat) (ctx text fs:List Int) (es:Qc0 key (nonV num) ctx text=fs) (v2 v3:Value) (B2 B3:Nat) (th tq:TypeId) (w:World) (hkl:key.length=32) (hcl:chain.length=32) (hhl:hash.length=32) (hh:w.heap[2]? = some (.cells (ints .u32 qH) th)) (hq:w.heap[3]? = some (.cells (ints .i64 qQ) tq)) (hg:w.heap[g]? = some (.cells (cat [ints .u8 (key),#[.bool true],#[.int .i64 ((num:Nat):Int)],ints .u8 (chain),ints .u8 (hash),tl]) Tg)) (hn:num<4294967295) (hxb:Qaf ctx) (htb:Qaf text) (hxl:ctx.length≤1048576) (htl:text.length≤1048576) (hx:RdK .u8 B2 ctx v2 w) (ht:RdK .u8 B3 fs v3 w) :
  Calls Tryz.prog 75 #[.pointer (some ⟨g,0,none⟩),.func (.func 81) #[] #[],v2,v3] w (fun e W=>∃ u,e=.returned (.tuple #[u,.nilIface])∧OwnN .u8 5 w.heap.size (text) u W∧ExtB g w W∧W.heap[g]? = some (.cells (cat [ints .u8 (key),#[.bool true],#[.int .i64 ((num+1:Nat):Int)],ints .u8 (chain),ints .u8 (hash),tl]) Tg)):=by
 obtain ⟨a_c,c_c,rfl,-⟩:=id hx
 obtain ⟨a_t,c_t,rfl,-⟩:=id ht
 refine enter 52 [(0,.pointer (some ⟨g,0,none⟩)),(1,.func (.func 81) #[] #[]),(2,.slice a_c ctx.length c_c),(3,.slice a_t fs.length c_t)] Tryz.func75 rfl rfl kj rfl <| sgB kj <| wp_seq_k fun K5 hK5=>sgC fun K6 hK6=>sg 3 kj <| Qac (.bool true) 15 rfl kj (Qaj 4 _ g 32 Tg _ (.bool true) _ hg rfl kj (Qaq [ints .u8 (key)] [#[.bool true]] [#[.int .i64 ((num:Nat):Int)],ints .u8 (chain),ints .u8 (hash),tl] 32 (izT hkl) 0 _ rfl) kj) <| sg 1 kj <| sgN hK6 <| cond_false kj <| wp_skip ?_
 refine hK5 _ _ <| wp_seq_k fun K7 hK7=>sgC fun K8 hK8=>sg 3 kj <| Qac (.int .i64 ((num:Nat):Int)) 22 rfl kj (Qaj 3 _ g 33 Tg _ (.int .i64 ((num:Nat):Int)) _ hg rfl kj (Qaq [ints .u8 (key),#[.bool true]] [#[.int .i64 ((num:Nat):Int)]] [ints .u8 (chain),ints .u8 (hash),tl] 33 (by rw [Qab,Qab]; simp only [qS,cat,(izT hkl)]; rfl) 0 _ rfl) kj) ?_
 refine Qac (.bool false) 23 rfl kj (Qam (u:=.bool ((((num:Nat):Int)==4294967295))) kj (congrArg zaJ (beq_eq_false_iff_ne.2 (by omega)))) <| sgN hK8 <| cond_false kj <| wp_skip <| hK7 _ _ <| wp_seq_k fun K9 hK9=>Qba 17 [⟨none,[(1,none)]⟩,⟨none,[(0,none)]⟩,⟨none,[(27,some 1)]⟩,⟨none,[(28,some 2)]⟩,⟨none,[(29,some 3)]⟩,⟨none,[(0,none)]⟩,⟨none,[(31,some 5)]⟩,⟨none,[(32,some 6)]⟩,⟨none,[(33,some 7)]⟩,⟨none,[(34,some 8)]⟩,⟨none,[(2,none)]⟩,⟨none,[(3,none)]⟩,⟨none,[(26,some 0),(30,some 4),(35,some 9),(36,some 10),(37,some 11)]⟩,⟨none,[(38,some 12)]⟩,⟨none,[(25,some 13)]⟩,⟨none,[(25,some 13)]⟩,⟨none,[(39,some 14)]⟩] kj kj fun F hF=>Qa6 (Qar _) (.func (.func 81) #[] #[]) kj kj (fun _=>kj) <| Qa6 (Qar _) (.pointer (some ⟨g,0,none⟩)) kj kj (fun _=>kj) <| Qa6 (Qar _) (.pointer (some ⟨g,0,none⟩)) kj kj (fun _=>kj) ?_
 refine Qa6 (Qar _) (.pointer (some ⟨g,0,none⟩)) kj kj (fun _=>kj) <| QcF (Qar _) (.agg (ints .u8 (key))) kj kj (fun W hR=>(Qan 23 _ g 0 Tg _ _ _ (Qaa (Qaa hg (Qah _)) hR) rfl kj (Qaq [] [ints .u8 (key)] [#[.bool true],#[.int .i64 ((num:Nat):Int)],ints .u8 (chain),ints .u8 (hash),tl] 0 kj) kj (isz (n:=32) kj (izT hkl)))) <| Qa6 (Qar _) (.pointer (some ⟨g,0,none⟩)) kj kj (fun _=>kj) <| Qa6 (Qar _) (.pointer (some ⟨g,0,none⟩)) kj kj (fun _=>kj) <| Qa6 (Qar _) (.pointer (some ⟨g,33,none⟩)) kj kj (fun _=>kj) <| QcF (Qar _) (.int .i64 ((num:Nat):Int)) kj kj (fun W hR=>(Qaj 3 _ g 33 Tg _ (.int .i64 ((num:Nat):Int)) _ (Qaa (Qaa hg (Qah _)) hR) rfl kj (Qaq [ints .u8 (key),#[.bool true]] [#[.int .i64 ((num:Nat):Int)]] [ints .u8 (chain),ints .u8 (hash),tl] 33 (by rw [Qab,Qab]; simp only [qS,cat,(izT hkl)]; rfl) 0 _ rfl) kj)) ?_
 refine Qgy (Qar _) (OwnN .u8 5 w.heap.size (nonV num)) (zbd _ _ _ _) 101 #[.int .i64 ((num:Nat):Int)] kj kj (fun _=>kj) (fun W hR=>(Qos w.heap.size num _ (zaU (Qah _) hR).size)) <| Qa6 (Qar _) (.slice a_c ctx.length c_c) kj kj (fun _=>kj) <| Qa6 (Qar _) (.slice a_t fs.length c_t) kj kj (fun _=>kj) <| Qkj (Qar _) (MixR w.heap.size text) (Qef _ _) 81 (fun ρ W hR hX=>?_) ?_
 ·skip
  have e30_:ρ 30=.agg (ints .u8 (key)):=hX.2.1
  have q35_:(OwnN .u8 5 w.heap.size (nonV num)) (ρ 35) W:=hX.2.2.1
  obtain ⟨ar35,cr35,e35_,-⟩:=id (zbf q35_)
  have rd35_:=zbf q35_
  rw [e35_] at rd35_
  have e36_:ρ 36=.slice a_c ctx.length c_c:=hX.2.2.2.1
  have e37_:ρ 37=.slice a_t fs.length c_t:=hX.2.2.2.2.1
  have e26_:ρ 26=.func (.func 81) #[] #[]:=hX.1
  refine ⟨#[.agg (ints .u8 (key)),.slice ar35 ((nonV num).length) cr35,.slice a_c ctx.length c_c,.slice a_t fs.length c_t],Qm0 (ρ':=fun t=>if t=26 then ρ 26 else if t=30 then ρ 30 else if t=35 then ρ 35 else if t=36 then ρ 36 else if t=37 then ρ 37 else ρ t) kj ?_,?_⟩
  ·rw [e26_,e30_,e35_,e36_,e37_]; kernel_rfl
  exact ((QpE key (nonV num) ctx text fs es _ _ _ _ _ _ th tq W (Qaa (Qaa hh (Qah _)) hR) (Qaa (Qaa hq (Qah _)) hR) hkl rd35_ (zbe (zbe hx (zaT w)) (zaU (Qah _) hR)) (zbe (zbe ht (zaT w)) (zaU (Qah _) hR)) hxb htb (QjT _) hxl htl).mono fun e W2 hg=>by obtain ⟨v2,e1,e2,u,e3,e4⟩:=hg; exact ⟨v2,e1,e2,u,e3,e4.base (zaU (Qah _) hR).size⟩)
 refine Qfk (Qar _) (MixR w.heap.size text) (Qef _ _) (fun ρ W hR hh=>⟨ρ 38,W,by kernel_rfl,zaT _,(show (MixR w.heap.size text) (ρ 38) W from hh.1)⟩) <| Qfk (Qar _) (OwnN .u8 5 w.heap.size text) (zbd _ _ _ _) (fun ρ W hR hh=>?_) ?_
 ·obtain ⟨u,e,h⟩:=(show (MixR w.heap.size text) (ρ 25) W from hh.1)
  exact ⟨_,W,QdA (.tmp 25) 0 #[u,.nilIface] _ rfl e rfl,zaT _,h⟩
 refine Qfk (Qar _) (fun v W=>v=.nilIface) (fun _ _ _ _ h=>h) (fun ρ W hR hh=>?_) ?_
 ·obtain ⟨u,e,h⟩:=(show (MixR w.heap.size text) (ρ 25) W from hh.1)
  exact ⟨_,W,QdA (.tmp 25) 1 #[u,.nilIface] _ rfl e rfl,zaT _,rfl⟩
 refine Qfk (Qar _) (OwnN .u8 5 w.heap.size text) (zbd _ _ _ _) (fun ρ W hR hh=>⟨ρ 39,W,by kernel_rfl,zaT _,(show (OwnN .u8 5 w.heap.size text) (ρ 39) W from hh.1)⟩) <| Qdr (hF _ fun W1 e1=>?_)
 simp only [zam,zan,zax,zao,zay,zaz,finE,up]
 intro vv10 hv10 vv11 hv11 vv12 hv12 vv13 hv13 vv14 hv14 vv15 hv15
 clear hF
 obtain ⟨a16_,c16_,rfl,-⟩:=id (zbf hv10)
 obtain ⟨a17_,c17_,rfl,-⟩:=id (zbf hv13)
 subst hv14
 obtain ⟨a18_,c18_,rfl,-⟩:=id (zbf hv15)
 refine sg 1 kj <| sgN hK9 <| wp_seq_k fun K19 hK19=>sgB kj <| cond_false kj <| wp_skip <| hK19 _ _ <| sgC fun K21 hK21=>sg 3 kj ?_
 have r3_1:=(Qaa hg e1)
 refine Qac (.int .i64 ((num:Nat):Int)) 47 rfl kj (Qaj 3 _ g 33 Tg _ (.int .i64 ((num:Nat):Int)) _ r3_1 rfl kj (Qaq [ints .u8 (key),#[.bool true]] [#[.int .i64 ((num:Nat):Int)]] [ints .u8 (chain),ints .u8 (hash),tl] 33 (by rw [Qab,Qab]; simp only [qS,cat,(izT hkl)]; rfl) 0 _ rfl) kj) ?_
 refine Qac (.int .i64 ((num+1:Nat):Int)) 48 rfl kj (Qam (u:=.int .i64 (zat.wrap (((num:Nat):Int)+1))) kj (congrArg (zav .i64) (i64n _ _ (by omega) (by omega)))) <| sg 2 kj ?_
 have xb1:=zaZ (zaY g w) (zaX (zaT w) e1)
 refine Qai g _ (cat [ints .u8 (key),#[.bool true],#[.int .i64 ((num+1:Nat):Int)],ints .u8 (chain),ints .u8 (hash),tl]) Tg r3_1 rfl kj (run_storeQ 3 _ _ g 33 Tg [ints .u8 (key),#[.bool true]] [ints .u8 (chain),ints .u8 (hash),tl] _ (.int .i64 ((num+1:Nat):Int)) r3_1 rfl kj kj kj (by rw [Qab,Qab]; simp only [qS,cat,(izT hkl)]; rfl) rfl rfl) fun W2 p2 r3_2=>?_
 refine sgN hK21 <| sgB kj <| wp_ret ?_
 repeat (first | with_reducible refine goR1 ?_ | with_reducible refine goR2 ?_)
 exact (show bodyPost _ _ _ .ret _ _ from ret2 (.slice a18_ ((text).length) c18_) (.nilIface) rfl (Qa4 kj) (Qa4 kj) ⟨_,rfl,OwnN.base (zaT w).size (hv15.puts p2 (Qei hv15 (Qa7 hg))),(zba xb1 p2),r3_2⟩)
end Ci
end
section
namespace Wk
open Go Go.RowKit
open Rely Auto Own Sha
structure WA (P : Program) (ops : Array Oper) (Q : Exit → Act → World → Prop) (fuel : Nat) (listed : Array Bool) (a : Act) (w : World) : Prop where
  out:wpAny P .any ops Q fuel listed a w
section
variable {P : Program} {ops : Array Oper} {Q : Exit → Act → World → Prop} {o : Oper} {N : Nat} {L : Env} {w : World} {ds : List Deferred} {fuel : Nat} {listed : Array Bool}
theorem QdY {id : Nat} {l:List Oper} (hm:P.follows .mixedOrders=true) (h:∀ W,Ext w W→WA P l.toArray Q l.length (Array.replicate l.length false) (Qau ds N L) W):(Code.region id l.toArray true).wp P Q (Qau ds N L) w:=by
  refine wp_region_any hm ?_
  have:=(h w.drew (Qah w)).out
  simpa using this
theorem Qbl (k : Nat) (v:Value) (d:Nat) (ho:ops[k]? = some o) (hd:o.dst=some d) (hg:Qcd ops o N L=some true) (hc:(Region.noSelect ops&&Region.free .any ops listed k&&(zaS .any ops listed).contains k)=true)
    (hQ:∀ c a w,Q (.panic c) (a.put o.dst v) w→Q (.panic c) a w) (h:∀ W,(execOp (Rely.look (envN N L)) o).run P W=.ok (.value v) W) (kk:WA P ops Q fuel (listed.setIfInBounds k true) (Qau ds N ((d,v)::L)) w):WA P ops Q (fuel+1) listed (Qau ds N L) w:=by
  simp only [Bool.and_eq_true] at hc
  refine ⟨wpAny_take ho hc.1.1 hc.1.2 hc.2 hQ (.inl ⟨Qdd hg,fun W=>?_⟩) ?_⟩
  · rw [Qb3]; exact h W
  · rw [hd,Qby]; exact kk.out
theorem QfT (k : Nat) (ho:ops[k]? = some o) (hr:zaS .any ops listed=[k]) (R:Value→World→Prop) (f:FuncId) (args:Array Value) (d:Nat) (hd:o.dst=some d) (hg:Qcd ops o N L=some true)
    (h:(execOp (Rely.look (envN N L)) o).run P w=.ok (.enter f args) w) (hc:Calls P f args w fun e w'=>∃ v,e=.returned v∧R v w') (kk:∀ (v:Value) (W:World),R v W→WA P ops Q fuel (listed.setIfInBounds k true) (Qau ds N ((d,v)::L)) W):WA P ops Q (fuel+1) listed (Qau ds N L) w:=by
  refine ⟨wpAny_all hr (by simp) fun i hi=>?_⟩
  obtain rfl:i=k:=by simpa using hi
  unfold wpOp
  rw [ho]
  simp only [Qdd hg,if_true]
  refine .inl ?_
  unfold Oper.wp
  rw [Qb3,h]
  refine hc.mono ?_
  rintro e w' ⟨v,rfl,hw⟩
  show wpAny _ _ _ _ _ _ _ _
  rw [hd,Qby]
  exact (kk v w' hw).out
theorem QjA (hr : zaS .any ops listed=[]) (h:Q .normal (Qau ds N L) w):WA P ops Q fuel listed (Qau ds N L) w:=⟨wpAny_done hr h fuel⟩
end
end Wk
end
end Go.Proofs.YtlcjklafldaemaaGreatDoor
