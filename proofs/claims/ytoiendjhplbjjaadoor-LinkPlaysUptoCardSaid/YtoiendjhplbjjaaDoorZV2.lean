/- Texts of this claim, joined (V2). -/
import Derived.Test.YtoiendjhplbjjaaDoorZV1
import Derived.Laws.Externs
import Derived.Shelf.Spec.BitsCarry
import Derived.Shelf.Bits.Mul64
import Derived.Laws.Bits64b

set_option linter.unusedVariables false
set_option linter.unusedSimpArgs false
set_option maxHeartbeats 4000000
section
namespace Go.Proofs.YtoiendjhplbjjaaDoor.Ae
open Go Go.RowKit
open Rely Auto Own Sha
open Sha Cha
def isW (x : Int):Prop:=0≤x∧x<18446744073709551616
theorem QcD (x y c:Int) (hx:isW x) (hy:isW y) (hc:0≤c∧c≤1) :
    ∃ s d:Int,isW s∧(0≤d∧d≤1)∧s+18446744073709551616*d=x+y+c ∧
      ∀ W,(callFunc 166 #[.int .u64 x,.int .u64 y,.int .u64 c]).run Tryd.prog W=.ok (.value (.tuple #[.int .u64 s,.int .u64 d])) W:=by
  unfold isW at hx hy
  refine ⟨(x+y+c)%18446744073709551616,(x+y+c)/18446744073709551616,⟨by omega,by omega⟩,by omega,by omega,fun W=>?_⟩
  rw [run_callFunc_extern Tryd.func166 kj kj kj (e:=add64Entry) kj,run_add64 x y c hx.1 hy.1 hc.1 hc.2]
  rfl
theorem maskN (a : Int) (h:isW a):bits .and .u64 a 4294967295=a%4294967296:=by
  obtain ⟨A,rfl⟩:=Int.eq_ofNat_of_zero_le h.1
  have h:=bits_and_u64_nat A 4294967295 (by have:=h.2; omega) (by omega)
  have e:A&&&4294967295=A%4294967296:=Nat.and_two_pow_sub_one_eq_mod A 32
  rw [e] at h
  exact h
theorem Qjq (a : Int) (h:isW a):IntKind.u64.wrap a=a:=by rw [IntKind.wrap_u64]; have:=h.1; have:=h.2; omega
theorem Qic (x y:Int) (hx:isW x) (hy:isW y) :
    ∃ hi lo:Int,isW hi∧isW lo∧lo+18446744073709551616*hi=x*y∧∀ w,Calls Tryd.prog 169 #[.int .u64 x,.int .u64 y] w (fun e w'=>e=.returned (.tuple #[.int .u64 hi,.int .u64 lo])∧w'=w):=by
  obtain ⟨X,rfl⟩:=Int.eq_ofNat_of_zero_le hx.1
  obtain ⟨Y,rfl⟩:=Int.eq_ofNat_of_zero_le hy.1
  have hX:X<18446744073709551616:=by have:=hx.2; omega
  have hY:Y<18446744073709551616:=by have:=hy.2; omega
  have hXY:X*Y<18446744073709551616*18446744073709551616:=Nat.mul_lt_mul'' hX hY
  refine ⟨((X*Y/18446744073709551616:Nat):Int),((X*Y%18446744073709551616:Nat):Int),⟨by omega,by omega⟩,⟨by omega,by omega⟩,?_,fun w=>?_⟩
  · rw [←Int.natCast_mul]; omega
  obtain ⟨bd,bt,bw,hhi⟩:=Lib.mul64_hi X Y hX hY
  have ba:=Lib.half_mul_le (a:=X/4294967296) (b:=Y/4294967296) (by omega) (by omega)
  have bb:=Lib.half_mul_le (a:=X/4294967296) (b:=Y%4294967296) (by omega) (by omega)
  have bc:=Lib.half_mul_le (a:=X%4294967296) (b:=Y/4294967296) (by omega) (by omega)
  have ba':X/4294967296*(Y/4294967296)<18446744073709551616:=by omega
  have bb':X/4294967296*(Y%4294967296)<18446744073709551616:=by omega
  have bc':X%4294967296*(Y/4294967296)<18446744073709551616:=by omega
  have bh1:X/4294967296*(Y/4294967296)+(X/4294967296*(Y%4294967296)+X%4294967296*(Y%4294967296)/4294967296)/4294967296<18446744073709551616:=by omega
  have bh:X/4294967296*(Y/4294967296)+(X/4294967296*(Y%4294967296)+X%4294967296*(Y%4294967296)/4294967296)/4294967296+((X/4294967296*(Y%4294967296)+X%4294967296*(Y%4294967296)/4294967296)%4294967296+X%4294967296*(Y/4294967296))/4294967296<18446744073709551616:=by omega
  go_enter Tryd.func169,Tryd.ntmps169
  go_wp2
  simp only [Mul64.maskN X hX,Mul64.maskN Y hY,Mul64.divN,Mul64.mulN,Mul64.addN,Mul64.wrapN _ bd,Mul64.wrapN _ bb',Mul64.wrapN _ bt,Mul64.maskN _ bt,Mul64.wrapN _ bc',Mul64.wrapN _ bw,Mul64.wrapN _ ba',Mul64.wrapN _ bh1,Mul64.wrapN _ bh,Mul64.wrapM (X*Y)]
  rw [hhi]
  go_ret2
  exact ⟨rfl,rfl⟩
theorem Qbu : isW 0:=⟨by decide,by decide⟩
def nw3 (v : Int):List Int:=[v%18446744073709551616,v/18446744073709551616%18446744073709551616,v/340282366920938463463374607431768211456%18446744073709551616]
theorem Qjz {a b c v:Int} (ha:isW a) (hb:isW b) (hc:isW c) (h:a+18446744073709551616*b+340282366920938463463374607431768211456*c=v):[a,b,c]=nw3 v:=by
  obtain ⟨a0,a1⟩:=ha
  obtain ⟨b0,b1⟩:=hb
  obtain ⟨c0,c1⟩:=hc
  subst h
  unfold nw3
  have e1:(a+18446744073709551616*b+340282366920938463463374607431768211456*c)%18446744073709551616=a:=by omega
  have e2:(a+18446744073709551616*b+340282366920938463463374607431768211456*c)/18446744073709551616%18446744073709551616=b:=by omega
  have e3:(a+18446744073709551616*b+340282366920938463463374607431768211456*c)/340282366920938463463374607431768211456%18446744073709551616=c:=by omega
  rw [e1,e2,e3]
theorem Qcs (v : Int):isW (v%18446744073709551616):=⟨by omega,by omega⟩
theorem Qfq (v : Int) (h0:0≤v) (h:v<6277101735386680763835789423207666416102355444464034512896):v%18446744073709551616+18446744073709551616*(v/18446744073709551616%18446744073709551616)+340282366920938463463374607431768211456*(v/340282366920938463463374607431768211456%18446744073709551616)=v:=by omega
theorem Qkb (t : Nat) (ht:t<8):0<p256 t∧256*p256 t≤18446744073709551616:=by
  have:∀ t:Fin 8,0<p256 t.1∧256*p256 t.1≤18446744073709551616:=by decide +kernel
  exact this ⟨t,ht⟩
theorem QhT (u x:Int) (t:Nat) (h0:0≤u) (h1:u<p256 t) (hx:0≤x∧x<256) (ht:t<8):bits .or .u64 u (x*p256 t)=u+x*p256 t:=by
  obtain ⟨U,rfl⟩:=Int.eq_ofNat_of_zero_le h0
  obtain ⟨X,rfl⟩:=Int.eq_ofNat_of_zero_le hx.1
  obtain ⟨q0,q1⟩:=Qkb t ht
  have e:p256 t=((2^(8*t):Nat):Int):=by unfold p256; rw [Nat.pow_mul]; simp
  have hX:X<256:=by omega
  rw [e] at h1 q0 q1 ⊢
  have hU:U<2^(8*t):=by omega
  have q2:256*2^(8*t)≤18446744073709551616:=by omega
  have hm:X*2^(8*t)+2^(8*t)≤18446744073709551616:=by
    have:(X+1)*2^(8*t)≤256*2^(8*t):=Nat.mul_le_mul_right _ hX
    rw [Nat.succ_mul] at this; omega
  rw [←Int.natCast_mul,bits_or_u64_nat U (X*2^(8*t)) (by omega) (by omega)]
  have h:=Nat.shiftLeft_add_eq_or_of_lt hU X
  rw [Nat.shiftLeft_eq] at h
  rw [Nat.or_comm,←h]
  rw [Int.natCast_add]; omega
theorem Qld (x : Int) (t:Nat) (c:Int) (hc:c=((8*t:Nat):Int)) (hx:0≤x∧x<256) (ht:t<8):IntKind.u64.wrap (x*2^min c.toNat IntKind.u64.bits)=x*p256 t:=by
  subst hc
  have hm:min (((8*t:Nat):Int)).toNat IntKind.u64.bits=8*t:=by show min (((8*t:Nat):Int)).toNat 64=8*t; omega
  have e:(2:Int)^(8*t)=p256 t:=by unfold p256; rw [Int.pow_mul]; rfl
  obtain ⟨q0,q1⟩:=Qkb t ht
  rw [hm,e]
  have h1:0≤x*p256 t:=Int.mul_nonneg hx.1 (by omega)
  have h2:x*p256 t≤255*p256 t:=Int.mul_le_mul_of_nonneg_right (by omega) (by omega)
  exact Qjq _ ⟨h1,by omega⟩
theorem Qhg (v x:Int) (i:Nat) (hi:i<24) (h0:0≤v) (h1:v<p256 i) (hx:0≤x∧x<256) :
    bits .or .u64 (nth (nw3 v) (i/8)) (x*p256 (i%8))=nth (nw3 (v+x*p256 i)) (i/8)∧(nw3 v).set (i/8) (nth (nw3 (v+x*p256 i)) (i/8))=nw3 (v+x*p256 i):=by
  obtain ⟨t,et⟩:∃ t,t=i%8:=⟨_,rfl⟩
  have ht:t<8:=by omega
  obtain ⟨q0,q1⟩:=Qkb t ht
  obtain ⟨z,ez⟩:∃ z,z=x*p256 t:=⟨_,rfl⟩
  have hz0:0≤z:=by rw [ez]; exact Int.mul_nonneg hx.1 (by omega)
  have hz1:z≤255*p256 t:=by rw [ez]; exact Int.mul_le_mul_of_nonneg_right (by omega) (by omega)
  rw [←et]
  have hp8:p256 8=18446744073709551616:=by decide +kernel
  have hp16:p256 16=340282366920938463463374607431768211456:=p16
  rcases (show i=t∨i=8+t∨i=16+t by omega) with e | e | e
  · have hd:i/8=0:=by omega
    have hv:v<p256 t:=by rw [e] at h1; exact h1
    have hxp:x*p256 i=z:=by rw [e,ez]
    rw [hd,hxp]
    have e1:nth (nw3 v) 0=v:=by show v%_=v; omega
    have e2:nth (nw3 (v+z)) 0=v+z:=by show (v+z)%_=v+z; omega
    rw [e1,e2]
    refine ⟨by rw [QhT v x t h0 hv hx ht,ez],?_⟩
    show [v+z,v/18446744073709551616%18446744073709551616,v/340282366920938463463374607431768211456%18446744073709551616]=[(v+z)%18446744073709551616,(v+z)/18446744073709551616%18446744073709551616,(v+z)/340282366920938463463374607431768211456%18446744073709551616]
    congr 1
    · omega
    · congr 1
      · omega
      · congr 1; omega
  · have hd:i/8=1:=by omega
    have hpi:p256 i=18446744073709551616*p256 t:=by rw [e,Qc3,hp8]
    have hv:v<18446744073709551616*p256 t:=by rw [hpi] at h1; exact h1
    have hxp:x*p256 i=18446744073709551616*z:=by rw [hpi,ez]; grind
    rw [hd,hxp]
    have e1:nth (nw3 v) 1=v/18446744073709551616:=by show v/_%_=v/_; omega
    have e2:nth (nw3 (v+18446744073709551616*z)) 1=v/18446744073709551616+z:=by show (v+_*z)/_%_=_; omega
    rw [e1,e2]
    refine ⟨by rw [QhT (v/18446744073709551616) x t (by omega) (by omega) hx ht,ez],?_⟩
    show [v%18446744073709551616,v/18446744073709551616+z,v/340282366920938463463374607431768211456%18446744073709551616]=[(v+18446744073709551616*z)%18446744073709551616,(v+18446744073709551616*z)/18446744073709551616%18446744073709551616,(v+18446744073709551616*z)/340282366920938463463374607431768211456%18446744073709551616]
    congr 1
    · omega
    · congr 1
      · omega
      · congr 1; omega
  · have hd:i/8=2:=by omega
    have hpi:p256 i=340282366920938463463374607431768211456*p256 t:=by rw [e,Qc3,hp16]
    have hv:v<340282366920938463463374607431768211456*p256 t:=by rw [hpi] at h1; exact h1
    have hxp:x*p256 i=340282366920938463463374607431768211456*z:=by rw [hpi,ez]; grind
    rw [hd,hxp]
    have e1:nth (nw3 v) 2=v/340282366920938463463374607431768211456:=by show v/_%_=v/_; omega
    have e2:nth (nw3 (v+340282366920938463463374607431768211456*z)) 2=v/340282366920938463463374607431768211456+z:=by show (v+_*z)/_%_=_; omega
    rw [e1,e2]
    refine ⟨by rw [QhT (v/340282366920938463463374607431768211456) x t (by omega) (by omega) hx ht,ez],?_⟩
    show [v%18446744073709551616,v/18446744073709551616%18446744073709551616,v/340282366920938463463374607431768211456+z]=[(v+340282366920938463463374607431768211456*z)%18446744073709551616,(v+340282366920938463463374607431768211456*z)/18446744073709551616%18446744073709551616,(v+340282366920938463463374607431768211456*z)/340282366920938463463374607431768211456%18446744073709551616]
    congr 1
    · omega
    · congr 1
      · omega
      · congr 1; omega
theorem Qa8 (v : Int):(nw3 v).length=3:=rfl
theorem Qlh (m0_ m1_ m2_ n0_ n1_ n2_ v:Int) (hm0_:isW m0_) (hm1_:isW m1_) (hm2_:isW m2_) (hn0_:isW n0_) (hn1_:isW n1_) (hn2_:isW n2_) (hv:(m0_+18446744073709551616*m1_+340282366920938463463374607431768211456*m2_)+(n0_+18446744073709551616*n1_+340282366920938463463374607431768211456*n2_)=v) (hlt:v<6277101735386680763835789423207666416102355444464034512896) (w:World) :
    Calls Tryd.prog 159 #[.agg (ints .u64 [m0_,m1_,m2_]),.agg (ints .u64 [n0_,n1_,n2_])] w (Ret w (.agg (ints .u64 (nw3 v)))):=by
  refine enter 25 [(0,.agg (ints .u64 ([m0_,m1_,m2_]))),(1,.agg (ints .u64 ([n0_,n1_,n2_])))] Tryd.func159 rfl rfl kj rfl <| sgC fun K1 hK1=>Qas (ints .u64 ([m0_,m1_,m2_])) 221 2 rfl kj kj fun g2 W1 l2 e1 r2_1=>?_
  have x1:=Ext.tr (Rely.Ext.refl w) e1
  have b2:=qT (Rely.Ext.refl w).size l2
  refine Qas (ints .u64 ([n0_,n1_,n2_])) 221 3 rfl kj kj fun g3 W2 l3 e2 r3_2=>?_
  have x2:=Ext.tr x1 e2
  have b3:=qT x1.size l3
  refine Qas (ints .u64 ([0,0,0])) 221 4 rfl kj kj fun g4 W3 l4 e3 r4_3=>sgN hK1 <| sgB kj <| wp_seq_k fun K6 hK6=>sgB kj <| wp_block <| wp_loop_rounds 4 ?_
  show Code.wp _ _ (Exit.then (Code.rounds _ _ _ 3) _) _ _
  refine sgB kj <| sgT kj <| wp_seq_k fun K10 hK10=>wp_block <| sgB kj <| Qdg (fun W=>True) [⟨none,[(6,none)]⟩,⟨none,[(6,none)]⟩,⟨none,[(2,none),(12,some 1)]⟩,⟨none,[(13,some 2)]⟩,⟨none,[(6,none)]⟩,⟨none,[(3,none),(15,some 4)]⟩,⟨none,[(16,some 5)]⟩,⟨none,[(5,none)]⟩,⟨none,[(14,some 3),(17,some 6),(18,some 7)]⟩,⟨none,[(19,some 8)]⟩,⟨none,[(10,some 9)]⟩,⟨none,[(10,some 9)]⟩,⟨none,[(2,none),(11,some 0)]⟩,⟨none,[(22,some 12),(20,some 10)]⟩,⟨none,[(21,some 11)]⟩] [] [11,14] kj kj kj (fun W hR=>trivial) fun F hF=>Qbj (.int .i64 0) kj kj rfl (fun W=>by kernel_rfl) <| Qbj (.int .i64 0) kj kj rfl (fun W=>by kernel_rfl) <| Qbj (.pointer (some ⟨g2,0,none⟩)) kj kj rfl (fun W=>by kernel_rfl) ?_
  have r2_2:=(Qab r2_1 e2)
  have r2_3:=(Qab r2_2 e3)
  refine Qc6 (.int .u64 m0_) kj kj kj rfl (fun W hR=>(Qah 129 _ g2 0 221 _ (.int .u64 m0_) _ (Qab (Qab r2_3 (Qak _)) hR) rfl kj kj kj)) <| Qbj (.int .i64 0) kj kj rfl (fun W=>by kernel_rfl) <| Qbj (.pointer (some ⟨g3,0,none⟩)) kj kj rfl (fun W=>by kernel_rfl) ?_
  have r3_3:=(Qab r3_2 e3)
  refine Qc6 (.int .u64 n0_) kj kj kj rfl (fun W hR=>(Qah 129 _ g3 0 221 _ (.int .u64 n0_) _ (Qab (Qab r3_3 (Qak _)) hR) rfl kj kj kj)) <| Qbj (.int .u64 0) kj kj rfl (fun W=>by kernel_rfl) ?_
  obtain ⟨s1,d1,hs1,hd1,he1,ra1⟩:=QcD (m0_) (n0_) (0) hm0_ hn0_ ⟨by decide,by decide⟩
  refine Qbj (.tuple #[.int .u64 (s1),.int .u64 (d1)]) kj kj rfl (fun W=>(Qbg (f:=166) (args:=#[.int .u64 m0_,.int .u64 n0_,.int .u64 0]) _ _ _ rfl kj kj (ra1 _))) <| Qbj (.tuple #[.int .u64 (s1),.int .u64 (d1)]) kj kj rfl (fun W=>by kernel_rfl) <| Qbj (.int .u64 (s1)) kj kj rfl (fun W=>by kernel_rfl) <| Qbj (.int .u64 (d1)) kj kj rfl (fun W=>by kernel_rfl) <| Qbj (.pointer (some ⟨g2,0,none⟩)) kj kj rfl (fun W=>by kernel_rfl) <| Qd9 rfl <| Qbj (.int .u64 (d1)) kj kj rfl (fun W=>by kernel_rfl) <| QiA (hF _ kj fun W4 e4=>?_)
  simp only [List.nil_append,List.cons_append,fins,up]
  clear hF
  have r2_4:=(Qab r2_3 e4)
  refine Qda _ g2 _ (ints .u64 ([(s1),m1_,m2_])) 221 r2_4 rfl (Qa1 129 _ _ g2 0 221 _ _ r2_4 rfl kj kj kj (show 0<3 by decide)) (fun W hp=>trivial) fun W5 p5 r2_5=>Qgy <| hK10 _ _ <| sgA kj ?_
  show Code.rounds _ _ _ 3 _ _
  show Code.wp _ _ (Exit.then (Code.rounds _ _ _ 2) _) _ _
  refine sgB kj <| sgT kj <| wp_seq_k fun K14 hK14=>wp_block <| sgB kj <| Qdg (fun W=>True) [⟨none,[(6,none)]⟩,⟨none,[(6,none)]⟩,⟨none,[(2,none),(12,some 1)]⟩,⟨none,[(13,some 2)]⟩,⟨none,[(6,none)]⟩,⟨none,[(3,none),(15,some 4)]⟩,⟨none,[(16,some 5)]⟩,⟨none,[(5,none)]⟩,⟨none,[(14,some 3),(17,some 6),(18,some 7)]⟩,⟨none,[(19,some 8)]⟩,⟨none,[(10,some 9)]⟩,⟨none,[(10,some 9)]⟩,⟨none,[(2,none),(11,some 0)]⟩,⟨none,[(22,some 12),(20,some 10)]⟩,⟨none,[(21,some 11)]⟩] [] [11,14] kj kj kj (fun W hR=>trivial) fun F hF=>Qbj (.int .i64 1) kj kj rfl (fun W=>by kernel_rfl) <| Qbj (.int .i64 1) kj kj rfl (fun W=>by kernel_rfl) <| Qbj (.pointer (some ⟨g2,1,none⟩)) kj kj rfl (fun W=>by kernel_rfl) <| Qc6 (.int .u64 m1_) kj kj kj rfl (fun W hR=>(Qah 129 _ g2 1 221 _ (.int .u64 m1_) _ (Qab (Qab r2_5 (Qak _)) hR) rfl kj kj kj)) ?_
  refine Qbj (.int .i64 1) kj kj rfl (fun W=>by kernel_rfl) <| Qbj (.pointer (some ⟨g3,1,none⟩)) kj kj rfl (fun W=>by kernel_rfl) ?_
  have r3_5:=(Puts.row p5 (Qab r3_3 e4) (QaA r2_1 l3))
  refine Qc6 (.int .u64 n1_) kj kj kj rfl (fun W hR=>(Qah 129 _ g3 1 221 _ (.int .u64 n1_) _ (Qab (Qab r3_5 (Qak _)) hR) rfl kj kj kj)) <| Qbj (.int .u64 (d1)) kj kj rfl (fun W=>by kernel_rfl) ?_
  obtain ⟨s2,d2,hs2,hd2,he2,ra2⟩:=QcD (m1_) (n1_) (d1) hm1_ hn1_ hd1
  refine Qbj (.tuple #[.int .u64 (s2),.int .u64 (d2)]) kj kj rfl (fun W=>(Qbg (f:=166) (args:=#[.int .u64 m1_,.int .u64 n1_,.int .u64 (d1)]) _ _ _ rfl kj kj (ra2 _))) <| Qbj (.tuple #[.int .u64 (s2),.int .u64 (d2)]) kj kj rfl (fun W=>by kernel_rfl) <| Qbj (.int .u64 (s2)) kj kj rfl (fun W=>by kernel_rfl) <| Qbj (.int .u64 (d2)) kj kj rfl (fun W=>by kernel_rfl) <| Qbj (.pointer (some ⟨g2,1,none⟩)) kj kj rfl (fun W=>by kernel_rfl) <| Qd9 rfl <| Qbj (.int .u64 (d2)) kj kj rfl (fun W=>by kernel_rfl) <| QiA (hF _ kj fun W6 e6=>?_)
  simp only [List.nil_append,List.cons_append,fins,up]
  clear hF
  have r2_6:=(Qab r2_5 e6)
  refine Qda _ g2 _ (ints .u64 ([(s1),(s2),m2_])) 221 r2_6 rfl (Qa1 129 _ _ g2 1 221 _ _ r2_6 rfl kj kj kj (show 1<3 by decide)) (fun W hp=>trivial) fun W7 p7 r2_7=>Qgy <| hK14 _ _ <| sgA kj ?_
  show Code.rounds _ _ _ 2 _ _
  show Code.wp _ _ (Exit.then (Code.rounds _ _ _ 1) _) _ _
  refine sgB kj <| sgT kj <| wp_seq_k fun K18 hK18=>wp_block <| sgB kj <| Qdg (fun W=>True) [⟨none,[(6,none)]⟩,⟨none,[(6,none)]⟩,⟨none,[(2,none),(12,some 1)]⟩,⟨none,[(13,some 2)]⟩,⟨none,[(6,none)]⟩,⟨none,[(3,none),(15,some 4)]⟩,⟨none,[(16,some 5)]⟩,⟨none,[(5,none)]⟩,⟨none,[(14,some 3),(17,some 6),(18,some 7)]⟩,⟨none,[(19,some 8)]⟩,⟨none,[(10,some 9)]⟩,⟨none,[(10,some 9)]⟩,⟨none,[(2,none),(11,some 0)]⟩,⟨none,[(22,some 12),(20,some 10)]⟩,⟨none,[(21,some 11)]⟩] [] [11,14] kj kj kj (fun W hR=>trivial) fun F hF=>Qbj (.int .i64 2) kj kj rfl (fun W=>by kernel_rfl) <| Qbj (.int .i64 2) kj kj rfl (fun W=>by kernel_rfl) <| Qbj (.pointer (some ⟨g2,2,none⟩)) kj kj rfl (fun W=>by kernel_rfl) <| Qc6 (.int .u64 m2_) kj kj kj rfl (fun W hR=>(Qah 129 _ g2 2 221 _ (.int .u64 m2_) _ (Qab (Qab r2_7 (Qak _)) hR) rfl kj kj kj)) ?_
  refine Qbj (.int .i64 2) kj kj rfl (fun W=>by kernel_rfl) <| Qbj (.pointer (some ⟨g3,2,none⟩)) kj kj rfl (fun W=>by kernel_rfl) <| Qc6 (.int .u64 n2_) kj kj kj rfl (fun W hR=>(Qah 129 _ g3 2 221 _ (.int .u64 n2_) _ (Qab (Qab (Puts.row p7 (Qab r3_5 e6) (QaA r2_1 l3)) (Qak _)) hR) rfl kj kj kj)) <| Qbj (.int .u64 (d2)) kj kj rfl (fun W=>by kernel_rfl) ?_
  obtain ⟨s3,d3,hs3,hd3,he3,ra3⟩:=QcD (m2_) (n2_) (d2) hm2_ hn2_ hd2
  refine Qbj (.tuple #[.int .u64 (s3),.int .u64 (d3)]) kj kj rfl (fun W=>(Qbg (f:=166) (args:=#[.int .u64 m2_,.int .u64 n2_,.int .u64 (d2)]) _ _ _ rfl kj kj (ra3 _))) <| Qbj (.tuple #[.int .u64 (s3),.int .u64 (d3)]) kj kj rfl (fun W=>by kernel_rfl) <| Qbj (.int .u64 (s3)) kj kj rfl (fun W=>by kernel_rfl) <| Qbj (.int .u64 (d3)) kj kj rfl (fun W=>by kernel_rfl) <| Qbj (.pointer (some ⟨g2,2,none⟩)) kj kj rfl (fun W=>by kernel_rfl) <| Qd9 rfl <| Qbj (.int .u64 (d3)) kj kj rfl (fun W=>by kernel_rfl) <| QiA (hF _ kj fun W8 e8=>?_)
  simp only [List.nil_append,List.cons_append,fins,up]
  clear hF
  have r2_8:=(Qab r2_7 e8)
  refine Qda _ g2 _ (ints .u64 ([(s1),(s2),(s3)])) 221 r2_8 rfl (Qa1 129 _ _ g2 2 221 _ _ r2_8 rfl kj kj kj (show 2<3 by decide)) (fun W hp=>trivial) fun W9 p9 r2_9=>Qgy <| hK18 _ _ <| sgA kj ?_
  show Code.rounds _ _ _ 1 _ _
  show Code.wp _ _ (Exit.then (Code.rounds _ _ _ 0) _) _ _
  refine sgB kj <| wp_seq_k fun K21 hK21=>cond_false kj <| wp_exit <| hK6 _ _ <| sgC fun K22 hK22=>Qaa (.agg (ints .u64 ([(s1),(s2),(s3)]))) 24 rfl kj (Qao 221 _ g2 221 _ _ r2_9 rfl kj kj (isz (n:=3) kj kj)) ?_
  have r4_9:=(Puts.row p9 (Qab (Puts.row p7 (Qab (Puts.row p5 (Qab r4_3 e4) (QaA r2_2 l4)) e6) (QaA r2_2 l4)) e8) (QaA r2_2 l4))
  refine Qal g4 _ (ints .u64 ([(s1),(s2),(s3)])) 221 r4_9 rfl kj (Qav 221 _ _ g4 221 _ _ r4_9 rfl kj kj (isz (n:=3) kj kj) (eqsz (n:=3) kj kj) (QaC _ _)) fun W10 p10 r4_10=>sgN hK22 <| wp_ret ?_
  repeat (first | with_reducible refine goR1 ?_ | with_reducible refine goR2 ?_)
  exact (show bodyPost _ _ _ .ret _ _ from ret1 (.agg (ints .u64 ([(s1),(s2),(s3)]))) rfl (Qbq g4 221 _ r4_10 kj kj (isz (n:=3) kj kj)) ⟨by rw [Qjz (v:=v) hs1 hs2 hs3 (by obtain ⟨hs10,hs11⟩:=hs1; obtain ⟨hs20,hs21⟩:=hs2; obtain ⟨hs30,hs31⟩:=hs3; omega)],(Puts.ext p10 (Puts.ext p9 (Ext.tr (Puts.ext p7 (Ext.tr (Puts.ext p5 (Ext.tr (Ext.tr x2 e3) e4) b2) e6) b2) e8) b2) (qT x2.size l4))⟩)
theorem Qgg (a b:Int) (ha:0≤a) (hb:0≤b) (ha2:a<6277101735386680763835789423207666416102355444464034512896) (hb2:b<6277101735386680763835789423207666416102355444464034512896) (hlt:a+b<6277101735386680763835789423207666416102355444464034512896) (w:World) :
    Calls Tryd.prog 159 #[.agg (ints .u64 (nw3 a)),.agg (ints .u64 (nw3 b))] w (Ret w (.agg (ints .u64 (nw3 (a+b))))) :=
  Qlh _ _ _ _ _ _ (a+b) (Qcs _) (Qcs _) (Qcs _) (Qcs _) (Qcs _) (Qcs _) (by rw [Qfq a ha ha2,Qfq b hb hb2]) hlt w
theorem QhA (b : List Int) (v:Value) (B:Nat) (w:World) (hb:RdK .u8 B b v w) (hl:b.length≤24) (hbb:Qai b):Calls Tryd.prog 157 #[v] w (Ret w (.agg (ints .u64 (nw3 (lev b))))):=by
 obtain ⟨a_b,c_b,rfl,-⟩:=id hb
 refine enter 27 [(0,.slice a_b b.length c_b)] Tryd.func157 rfl rfl kj rfl <| sgC fun K1 hK1=>Qas (ints .u64 ([0,0,0])) 221 2 rfl kj kj fun g2 W1 l2 e1 r2_1=>?_
 have x1:=Ext.tr (Rely.Ext.refl w) e1
 refine sgN hK1 <| sgC fun K3 hK3=>Qas (ints .u64 ([0,0,0])) 221 3 rfl kj kj fun g4 W2 l4 e2 r4_2=>sgN hK3 <| wp_seq_k fun K5 hK5=>sgB kj <| wp_block ?_
 have r4_2_7:W2.heap[g4]? = some (.cells (ints .u64 (nw3 (lev (b.take 0)))) 221):=QaI r4_2 (by rw [List.take_zero]; rfl)
 refine QaB (fun (s1:Nat)=>[(2,.pointer (some ⟨g2,0,none⟩)),(3,.pointer (some ⟨g4,0,none⟩)),(6,.slice a_b b.length c_b),(7,.int .i64 ((b.length:Nat):Int)),(8,.int .i64 ((s1:Nat):Int))]) (fun (s1:Nat) W=>(s1≤b.length)∧(W.heap[g4]? = some (.cells (ints .u64 (nw3 (lev (b.take s1)))) 221))∧(Qa2 [g4] W2 W)∧(Ext w W)) (fun (s1:Nat)=>b.length-s1) 0 ⟨kj,kj,kj,kj,kj,trivial⟩ ⟨(Nat.zero_le _),r4_2_7,(Qa2.refl [g4] W2),(Ext.tr x1 e2)⟩ fun s1 X1 V1 hI1=>?_
 obtain ⟨i,hs1⟩:∃ z,z=s1:=⟨_,rfl⟩
 subst hs1
 obtain ⟨hi,q4_1,kk1,xx1⟩:=hI1
 replace hi:i≤b.length:=hi
 replace q4_1:V1.heap[g4]? = some (.cells (ints .u64 (nw3 (lev (b.take i)))) 221):=q4_1
 replace kk1:Qa2 [g4] W2 V1:=kk1
 replace xx1:Ext w V1:=xx1
 have q3:=kk1
 refine sgB kj <| wp_seq_k fun K9 hK9=>Qa7 (t:=decide (((i:Nat):Int)<((b.length:Nat):Int))) kj (fun c10=>?_) (fun c10=>?_)
 ·skip
  have hlt9:i<b.length:=by have:=of_decide_eq_true c10; omega
  obtain ⟨grb11,orb11,harb11,-,hlrb11,hcrb11⟩:=Qb0 (RdK.ext hb xx1) (by omega)
  have hbi:=Qa5 hbb i
  have hn0:=Qbh (Qa4 hbb i)
  have hn1:=Qd7 (Qa4 hbb i)
  rw [List.length_take,Nat.min_eq_left (by omega)] at hn1
  obtain ⟨hst1,hst2⟩:=Qhg (lev (b.take i)) (nth b i) i (by omega) hn0 hn1 hbi
  rw [←Qbe b i hlt9] at hst1 hst2
  refine wp_skip <| hK9 _ _ <| wp_seq_k fun K12 hK12=>wp_block <| sgC fun K13 hK13=>sg 1 kj <| Qaa (.pointer (some ⟨grb11,orb11+i,none⟩)) 11 rfl kj (Qaw 33 _ _ .i64 i grb11 orb11 b.length c_b 5 a_b _ harb11 rfl rfl kj kj kj kj (Nat.lt_of_lt_of_eq (show i<(b).length by omega) (rfl:(b).length=(b).length).symm)) <| Qaa (.int .u8 (nth (b) (i))) 12 rfl kj (Qap 5 _ _ (.int .u8 (nth (b) (i))) (hcrb11 i (Nat.lt_of_lt_of_eq (show i<(b).length by omega) (rfl:(b).length=(b).length).symm)) rfl kj kj) <| sg 2 kj <| sgN hK13 ?_
  refine QaL 10 [⟨none,[(4,none)]⟩,⟨none,[(13,some 0)]⟩,⟨none,[(3,none),(14,some 1)]⟩,⟨none,[(15,some 2)]⟩,⟨none,[(5,none)]⟩,⟨none,[(17,some 4)]⟩,⟨none,[(4,none)]⟩,⟨none,[(19,some 6)]⟩,⟨none,[(20,some 7)]⟩,⟨none,[(18,some 5),(21,some 8)]⟩] kj kj fun F hF=>Qay (Qaj _) (.int .i64 ((i:Nat):Int)) kj kj (fun W=>by kernel_rfl) <| Qay (Qaj _) (.int .i64 ((i/8:Nat):Int)) kj kj (fun W=>(Qad (u:=.int .i64 (IntKind.i64.wrap (Int.tdiv (((i:Nat):Int)) (8)))) kj (congrArg (Value.int .i64) (Qcu _ 8 (by omega))))) <| Qay (Qaj _) (.pointer (some ⟨g4,i/8,none⟩)) kj kj (fun W=>(QaG _ _ _ .i64 (i/8) _ 3 129 rfl kj kj kj kj (by omega))) <| Qbi (Qaj _) (.int .u64 (nth (nw3 (lev (b.take i))) (i/8))) kj kj (fun W hR=>(Qah 129 _ g4 (i/8) 221 _ (.int .u64 (nth (nw3 (lev (b.take i))) (i/8))) _ (Qab (Qab q4_1 (Qak _)) hR) rfl kj (QaJ _ _ _ (Nat.lt_of_lt_of_eq (by omega) (Qa8 _).symm)) kj)) <| Qay (Qaj _) (.int .u8 (nth (b) (i))) kj kj (fun W=>by kernel_rfl) <| Qay (Qaj _) (.int .u64 (nth b i)) kj kj (fun W=>(Qad (u:=.int .u64 (IntKind.u64.wrap (nth (b) (i)))) kj (congrArg (Value.int .u64) (Qjq _ ⟨hbi.1,by omega⟩)))) <| Qay (Qaj _) (.int .i64 ((i:Nat):Int)) kj kj (fun W=>by kernel_rfl) <| Qay (Qaj _) (.int .i64 ((i%8:Nat):Int)) kj kj (fun W=>(Qad (u:=.int .i64 (Int.tmod (((i:Nat):Int)) (8))) kj (congrArg (Value.int .i64) (Qcg _ 8)))) <| Qay (Qaj _) (.int .i64 ((8*(i%8):Nat):Int)) kj kj (fun W=>(Qad (u:=.int .i64 (IntKind.i64.wrap (8*((i%8:Nat):Int)))) kj (congrArg (Value.int .i64) (i64n _ _ (by omega) (by omega))))) ?_
  refine Qay (Qaj _) (.int .u64 (nth b i*p256 (i%8))) kj kj (fun W=>(QaP .shl _ _ _ _ .u64 .i64 _ _ _ rfl kj kj (Qcv _ _ _ _ _ _ (by omega) (Qld _ (i%8) _ rfl hbi (by omega))))) <| Qck (hF _ fun W4 e4=>?_)
  simp only [List.nil_append,List.cons_append,List.take_succ_cons,List.take_zero,List.drop_succ_cons,List.drop_zero,finE,up]
  clear hF
  have x4:=Ext.tr xx1 e4
  refine Qaa (.int .u64 (nth (nw3 (lev (b.take (i+1)))) (i/8))) 23 rfl kj (Qad (u:=.int .u64 (bits .or .u64 ((nth (nw3 (lev (b.take i))) (i/8))) ((nth b i*p256 (i%8))))) kj (congrArg (Value.int .u64) hst1)) <| Qaa (.pointer (some ⟨g4,i/8,none⟩)) 24 rfl kj (QaG _ _ _ .i64 (i/8) _ 3 129 rfl kj kj kj kj (by omega)) ?_
  have r4_4:=(Qab q4_1 e4)
  refine Qal g4 _ (ints .u64 ((nw3 (lev (b.take i))).set (i/8) (nth (nw3 (lev (b.take (i+1)))) (i/8)))) 221 r4_4 rfl kj (Qa1 129 _ _ g4 (i/8) 221 _ _ r4_4 rfl kj kj kj (Nat.lt_of_lt_of_eq (by omega) (Qa8 _).symm)) fun W5 p5 r4_5=>Qae <| hK12 _ _ <| Qac <| Qaa (.int .i64 ((i+1:Nat):Int)) 25 rfl kj (Qad (u:=.int .i64 (IntKind.i64.wrap (((i:Nat):Int)+1))) kj (congrArg (Value.int .i64) (i64n _ _ (by omega) (by omega)))) <| sg 1 kj <| Qae ?_
  repeat (first | with_reducible refine goX1 ?_ | with_reducible refine goX2 ?_ | with_reducible refine goX3 ?_)
  exact Qax (i+1) ⟨kj,kj,kj,kj,kj,trivial⟩ ⟨(show i+1≤b.length by omega),(QaI r4_5 hst2),(Qa2.puts (Qa2.step q3 e4) p5 (.inl (by simp))),(Puts.ext p5 x4 (qT x1.size l4))⟩ (by show b.length-(i+1)<b.length-i; omega)
 ·skip
  have heq9:i=b.length:=by have:=of_decide_eq_false c10; omega
  subst heq9
  have r4_3_14:V1.heap[g4]? = some (.cells (ints .u64 (nw3 (lev b))) 221):=QaI q4_1 (by rw [List.take_length])
  refine wp_exit <| hK5 _ _ <| sgC fun K15 hK15=>Qaa (.agg (ints .u64 (nw3 (lev b)))) 26 rfl kj (Qao 221 _ g4 221 _ _ r4_3_14 rfl kj kj (isz (n:=3) kj ((Qaf _ _).trans (Qa8 _)))) ?_
  have r2_3:=(Qa2.row q3 (Qab r2_1 e2) (QaU (Qag r2_1 l4) Qbt))
  refine Qal g2 _ (ints .u64 (nw3 (lev b))) 221 r2_3 rfl kj (Qav 221 _ _ g2 221 _ _ r2_3 rfl kj kj (isz (n:=3) kj ((Qaf _ _).trans (Qa8 _))) (eqsz (n:=3) kj ((Qaf _ _).trans (Qa8 _))) (QaC _ _)) fun W4 p4 r2_4=>?_
  have x4:=Puts.ext p4 xx1 (qT (Rely.Ext.refl w).size l2)
  refine sgN hK15 <| wp_ret ?_
  repeat (first | with_reducible refine goR1 ?_ | with_reducible refine goR2 ?_)
  exact (show bodyPost _ _ _ .ret _ _ from ret1 (.agg (ints .u64 (nw3 (lev b)))) rfl (Qbq g2 221 _ r2_4 kj kj (isz (n:=3) kj ((Qaf _ _).trans (Qa8 _)))) ⟨rfl,x4⟩)
end Go.Proofs.YtoiendjhplbjjaaDoor.Ae
end
section
namespace Go.Proofs.YtoiendjhplbjjaaDoor.Ae
open Go Go.RowKit
open Rely Auto Own Sha
open Sha Cha
theorem mulR {x y hi lo:Int} {w:World} (h:Calls Tryd.prog 169 #[.int .u64 x,.int .u64 y] w (fun e w'=>e=.returned (.tuple #[.int .u64 hi,.int .u64 lo])∧w'=w)):Calls Tryd.prog 169 #[.int .u64 x,.int .u64 y] w (Ret w (.tuple #[.int .u64 hi,.int .u64 lo])) :=
  h.mono fun e w' h=>⟨h.1,h.2▸Rely.Ext.refl _⟩
set_option maxRecDepth 100000 in
theorem Qj2 (g : Nat) (q0_ q1_ q2_ q3_ q4_ q5_ xx yy p:Int) (hq0_:isW q0_) (hq1_:isW q1_) (hq2_:isW q2_) (hq3_:isW q3_) (hq4_:isW q4_) (hq5_:isW q5_) (hxx:isW xx) (hyy:isW yy) (hp:xx*yy=p) (hlt:(q0_+18446744073709551616*q1_+340282366920938463463374607431768211456*q2_+6277101735386680763835789423207666416102355444464034512896*q3_+115792089237316195423570985008687907853269984665640564039457584007913129639936*q4_+2135987035920910082395021706169552114602704522356652769947041607822219725780640550022962086936576*q5_)+1*p<39402006196394479212279040100143613805079739270465446667948293404245721771497210611414266254884915640806627990306816) (w:World) (hg:w.heap[g]? = some (.cells (ints .u64 [q0_,q1_,q2_,q3_,q4_,q5_]) 237)) :
    Calls Tryd.prog 168 #[.int .i64 0,.int .u64 xx,.int .u64 yy,.pointer (some ⟨g,0,none⟩)] w (fun e W=>e=.returned (.tuple #[])∧∃ r0 r1 r2 r3 r4 r5:Int,isW r0∧isW r1∧isW r2∧isW r3∧isW r4∧isW r5∧(r0+18446744073709551616*r1+340282366920938463463374607431768211456*r2+6277101735386680763835789423207666416102355444464034512896*r3+115792089237316195423570985008687907853269984665640564039457584007913129639936*r4+2135987035920910082395021706169552114602704522356652769947041607822219725780640550022962086936576*r5)=(q0_+18446744073709551616*q1_+340282366920938463463374607431768211456*q2_+6277101735386680763835789423207666416102355444464034512896*q3_+115792089237316195423570985008687907853269984665640564039457584007913129639936*q4_+2135987035920910082395021706169552114602704522356652769947041607822219725780640550022962086936576*q5_)+1*p∧ExtB g w W∧W.heap[g]? = some (.cells (ints .u64 [r0,r1,r2,r3,r4,r5]) 237)):=by
  refine enter 44 [(0,.int .i64 0),(1,.int .u64 (xx)),(2,.int .u64 (yy)),(3,.pointer (some ⟨g,0,none⟩))] Tryd.func168 rfl rfl kj rfl <| sgC fun K2 hK2=>sg 2 kj ?_
  obtain ⟨hi_,lo_,hhi,hlo,hml,cml⟩:=Qic xx yy hxx hyy
  rw [hp] at hml
  refine Qan (.tuple #[.int .u64 (hi_),.int .u64 (lo_)]) 169 #[.int .u64 (xx),.int .u64 (yy)] 14 rfl kj kj ((mulR (cml _))) fun W1 e1=>sg 5 kj <| sgN hK2 <| sgB kj <| sgC fun K4 hK4=>sg 3 kj ?_
  have r1_1:=(Qab hg e1)
  refine Qaa (.int .u64 q0_) 21 rfl kj (Qah 129 _ g 0 237 _ (.int .u64 q0_) _ r1_1 rfl kj kj kj) <| sg 1 kj ?_
  obtain ⟨s1,d1,hs1,hd1,he1,ra1⟩:=QcD (q0_) (lo_) (0) hq0_ hlo ⟨by decide,by decide⟩
  refine Qaa (.tuple #[.int .u64 (s1),.int .u64 (d1)]) 23 rfl kj (Qbg (f:=166) (args:=#[.int .u64 q0_,.int .u64 (lo_),.int .u64 0]) _ _ _ rfl kj kj (ra1 _)) <| sg 4 kj <| Qal g _ (ints .u64 ([(s1),q1_,q2_,q3_,q4_,q5_])) 237 r1_1 rfl kj (Qa1 129 _ _ g 0 237 _ _ r1_1 rfl kj kj kj (show 0<6 by decide)) fun W2 p2 r1_2=>sg 1 kj <| sgN hK4 <| sgB kj <| wp_block <| wp_loop_rounds 6 ?_
  show Code.wp _ _ (Exit.then (Code.rounds _ _ _ 5) _) _ _
  refine wp_seq_k fun K6 hK6=>sgB kj <| cond_true kj <| wp_skip <| hK6 _ _ <| wp_seq_k fun K8 hK8=>wp_block <| sgC fun K9 hK9=>sg 3 kj <| Qaa (.int .u64 q1_) 37 rfl kj (Qah 129 _ g 1 237 _ (.int .u64 q1_) _ r1_2 rfl kj kj kj) ?_
  refine sg 2 kj ?_
  obtain ⟨s2,d2,hs2,hd2,he2,ra2⟩:=QcD (q1_) (hi_) (d1) hq1_ hhi hd1
  refine Qaa (.tuple #[.int .u64 (s2),.int .u64 (d2)]) 40 rfl kj (Qbg (f:=166) (args:=#[.int .u64 q1_,.int .u64 (hi_),.int .u64 (d1)]) _ _ _ rfl kj kj (ra2 _)) <| sg 4 kj <| Qal g _ (ints .u64 ([(s1),(s2),q2_,q3_,q4_,q5_])) 237 r1_2 rfl kj (Qa1 129 _ _ g 1 237 _ _ r1_2 rfl kj kj kj (show 1<6 by decide)) fun W3 p3 r1_3=>sg 1 kj <| sgN hK9 <| sgA kj <| hK8 _ _ <| sgA kj ?_
  show Code.rounds _ _ _ 5 _ _
  show Code.wp _ _ (Exit.then (Code.rounds _ _ _ 4) _) _ _
  refine wp_seq_k fun K10 hK10=>sgB kj <| cond_true kj <| wp_skip <| hK10 _ _ <| wp_seq_k fun K12 hK12=>wp_block <| sgC fun K13 hK13=>sg 3 kj <| Qaa (.int .u64 q2_) 37 rfl kj (Qah 129 _ g 2 237 _ (.int .u64 q2_) _ r1_3 rfl kj kj kj) ?_
  refine sg 2 kj ?_
  obtain ⟨s3,d3,hs3,hd3,he3,ra3⟩:=QcD (q2_) (0) (d2) hq2_ Qbu hd2
  refine Qaa (.tuple #[.int .u64 (s3),.int .u64 (d3)]) 40 rfl kj (Qbg (f:=166) (args:=#[.int .u64 q2_,.int .u64 0,.int .u64 (d2)]) _ _ _ rfl kj kj (ra3 _)) <| sg 4 kj <| Qal g _ (ints .u64 ([(s1),(s2),(s3),q3_,q4_,q5_])) 237 r1_3 rfl kj (Qa1 129 _ _ g 2 237 _ _ r1_3 rfl kj kj kj (show 2<6 by decide)) fun W4 p4 r1_4=>sg 1 kj <| sgN hK13 <| sgA kj <| hK12 _ _ <| sgA kj ?_
  show Code.rounds _ _ _ 4 _ _
  show Code.wp _ _ (Exit.then (Code.rounds _ _ _ 3) _) _ _
  refine wp_seq_k fun K14 hK14=>sgB kj <| cond_true kj <| wp_skip <| hK14 _ _ <| wp_seq_k fun K16 hK16=>wp_block <| sgC fun K17 hK17=>sg 3 kj <| Qaa (.int .u64 q3_) 37 rfl kj (Qah 129 _ g 3 237 _ (.int .u64 q3_) _ r1_4 rfl kj kj kj) ?_
  refine sg 2 kj ?_
  obtain ⟨s4,d4,hs4,hd4,he4,ra4⟩:=QcD (q3_) (0) (d3) hq3_ Qbu hd3
  refine Qaa (.tuple #[.int .u64 (s4),.int .u64 (d4)]) 40 rfl kj (Qbg (f:=166) (args:=#[.int .u64 q3_,.int .u64 0,.int .u64 (d3)]) _ _ _ rfl kj kj (ra4 _)) <| sg 4 kj <| Qal g _ (ints .u64 ([(s1),(s2),(s3),(s4),q4_,q5_])) 237 r1_4 rfl kj (Qa1 129 _ _ g 3 237 _ _ r1_4 rfl kj kj kj (show 3<6 by decide)) fun W5 p5 r1_5=>sg 1 kj <| sgN hK17 <| sgA kj <| hK16 _ _ <| sgA kj ?_
  show Code.rounds _ _ _ 3 _ _
  show Code.wp _ _ (Exit.then (Code.rounds _ _ _ 2) _) _ _
  refine wp_seq_k fun K18 hK18=>sgB kj <| cond_true kj <| wp_skip <| hK18 _ _ <| wp_seq_k fun K20 hK20=>wp_block <| sgC fun K21 hK21=>sg 3 kj <| Qaa (.int .u64 q4_) 37 rfl kj (Qah 129 _ g 4 237 _ (.int .u64 q4_) _ r1_5 rfl kj kj kj) ?_
  refine sg 2 kj ?_
  obtain ⟨s5,d5,hs5,hd5,he5,ra5⟩:=QcD (q4_) (0) (d4) hq4_ Qbu hd4
  refine Qaa (.tuple #[.int .u64 (s5),.int .u64 (d5)]) 40 rfl kj (Qbg (f:=166) (args:=#[.int .u64 q4_,.int .u64 0,.int .u64 (d4)]) _ _ _ rfl kj kj (ra5 _)) <| sg 4 kj <| Qal g _ (ints .u64 ([(s1),(s2),(s3),(s4),(s5),q5_])) 237 r1_5 rfl kj (Qa1 129 _ _ g 4 237 _ _ r1_5 rfl kj kj kj (show 4<6 by decide)) fun W6 p6 r1_6=>sg 1 kj <| sgN hK21 <| sgA kj <| hK20 _ _ <| sgA kj ?_
  show Code.rounds _ _ _ 2 _ _
  show Code.wp _ _ (Exit.then (Code.rounds _ _ _ 1) _) _ _
  refine wp_seq_k fun K22 hK22=>sgB kj <| cond_true kj <| wp_skip <| hK22 _ _ <| wp_seq_k fun K24 hK24=>wp_block <| sgC fun K25 hK25=>sg 3 kj <| Qaa (.int .u64 q5_) 37 rfl kj (Qah 129 _ g 5 237 _ (.int .u64 q5_) _ r1_6 rfl kj kj kj) ?_
  refine sg 2 kj ?_
  obtain ⟨s6,d6,hs6,hd6,he6,ra6⟩:=QcD (q5_) (0) (d5) hq5_ Qbu hd5
  refine Qaa (.tuple #[.int .u64 (s6),.int .u64 (d6)]) 40 rfl kj (Qbg (f:=166) (args:=#[.int .u64 q5_,.int .u64 0,.int .u64 (d5)]) _ _ _ rfl kj kj (ra6 _)) <| sg 4 kj <| Qal g _ (ints .u64 ([(s1),(s2),(s3),(s4),(s5),(s6)])) 237 r1_6 rfl kj (Qa1 129 _ _ g 5 237 _ _ r1_6 rfl kj kj kj (show 5<6 by decide)) fun W7 p7 r1_7=>sg 1 kj <| sgN hK25 <| sgA kj <| hK24 _ _ <| sgA kj ?_
  show Code.rounds _ _ _ 1 _ _
  show Code.wp _ _ (Exit.then (Code.rounds _ _ _ 0) _) _ _
  refine wp_seq_k fun K26 hK26=>sgB kj <| cond_false kj <| wp_exit ?_
  repeat (first | with_reducible refine goX1 ?_ | with_reducible refine goX2 ?_ | with_reducible refine goX3 ?_)
  exact (show bodyPost _ _ _ .normal _ _ from end0 rfl ⟨rfl,s1,s2,s3,s4,s5,s6,hs1,hs2,hs3,hs4,hs5,hs6,(by obtain ⟨u1,v1⟩:=id hs1; obtain ⟨u2,v2⟩:=id hs2; obtain ⟨u3,v3⟩:=id hs3; obtain ⟨u4,v4⟩:=id hs4; obtain ⟨u5,v5⟩:=id hs5; obtain ⟨u6,v6⟩:=id hs6; obtain ⟨uq0,vq0⟩:=id hq0_; obtain ⟨uq1,vq1⟩:=id hq1_; obtain ⟨uq2,vq2⟩:=id hq2_; obtain ⟨uq3,vq3⟩:=id hq3_; obtain ⟨uq4,vq4⟩:=id hq4_; obtain ⟨uq5,vq5⟩:=id hq5_; obtain ⟨ud1,vd1⟩:=id hd1; obtain ⟨ud2,vd2⟩:=id hd2; obtain ⟨ud3,vd3⟩:=id hd3; obtain ⟨ud4,vd4⟩:=id hd4; obtain ⟨ud5,vd5⟩:=id hd5; obtain ⟨ud6,vd6⟩:=id hd6; obtain ⟨uh1,uh2⟩:=id hhi; obtain ⟨ul1,ul2⟩:=id hlo; omega),(ExtB.puts (ExtB.puts (ExtB.puts (ExtB.puts (ExtB.puts (ExtB.puts (ExtB.ext (ExtB.refl g w) e1) p2) p3) p4) p5) p6) p7),r1_7⟩)
set_option maxRecDepth 100000 in
theorem Qie (g : Nat) (q0_ q1_ q2_ q3_ q4_ q5_ xx yy p:Int) (hq0_:isW q0_) (hq1_:isW q1_) (hq2_:isW q2_) (hq3_:isW q3_) (hq4_:isW q4_) (hq5_:isW q5_) (hxx:isW xx) (hyy:isW yy) (hp:xx*yy=p) (hlt:(q0_+18446744073709551616*q1_+340282366920938463463374607431768211456*q2_+6277101735386680763835789423207666416102355444464034512896*q3_+115792089237316195423570985008687907853269984665640564039457584007913129639936*q4_+2135987035920910082395021706169552114602704522356652769947041607822219725780640550022962086936576*q5_)+18446744073709551616*p<39402006196394479212279040100143613805079739270465446667948293404245721771497210611414266254884915640806627990306816) (w:World) (hg:w.heap[g]? = some (.cells (ints .u64 [q0_,q1_,q2_,q3_,q4_,q5_]) 237)) :
    Calls Tryd.prog 168 #[.int .i64 1,.int .u64 xx,.int .u64 yy,.pointer (some ⟨g,0,none⟩)] w (fun e W=>e=.returned (.tuple #[])∧∃ r0 r1 r2 r3 r4 r5:Int,isW r0∧isW r1∧isW r2∧isW r3∧isW r4∧isW r5∧(r0+18446744073709551616*r1+340282366920938463463374607431768211456*r2+6277101735386680763835789423207666416102355444464034512896*r3+115792089237316195423570985008687907853269984665640564039457584007913129639936*r4+2135987035920910082395021706169552114602704522356652769947041607822219725780640550022962086936576*r5)=(q0_+18446744073709551616*q1_+340282366920938463463374607431768211456*q2_+6277101735386680763835789423207666416102355444464034512896*q3_+115792089237316195423570985008687907853269984665640564039457584007913129639936*q4_+2135987035920910082395021706169552114602704522356652769947041607822219725780640550022962086936576*q5_)+18446744073709551616*p∧ExtB g w W∧W.heap[g]? = some (.cells (ints .u64 [r0,r1,r2,r3,r4,r5]) 237)):=by
  refine enter 44 [(0,.int .i64 1),(1,.int .u64 (xx)),(2,.int .u64 (yy)),(3,.pointer (some ⟨g,0,none⟩))] Tryd.func168 rfl rfl kj rfl <| sgC fun K2 hK2=>sg 2 kj ?_
  obtain ⟨hi_,lo_,hhi,hlo,hml,cml⟩:=Qic xx yy hxx hyy
  rw [hp] at hml
  refine Qan (.tuple #[.int .u64 (hi_),.int .u64 (lo_)]) 169 #[.int .u64 (xx),.int .u64 (yy)] 14 rfl kj kj ((mulR (cml _))) fun W1 e1=>sg 5 kj <| sgN hK2 <| sgB kj <| sgC fun K4 hK4=>sg 3 kj ?_
  have r1_1:=(Qab hg e1)
  refine Qaa (.int .u64 q1_) 21 rfl kj (Qah 129 _ g 1 237 _ (.int .u64 q1_) _ r1_1 rfl kj kj kj) <| sg 1 kj ?_
  obtain ⟨s1,d1,hs1,hd1,he1,ra1⟩:=QcD (q1_) (lo_) (0) hq1_ hlo ⟨by decide,by decide⟩
  refine Qaa (.tuple #[.int .u64 (s1),.int .u64 (d1)]) 23 rfl kj (Qbg (f:=166) (args:=#[.int .u64 q1_,.int .u64 (lo_),.int .u64 0]) _ _ _ rfl kj kj (ra1 _)) <| sg 4 kj <| Qal g _ (ints .u64 ([q0_,(s1),q2_,q3_,q4_,q5_])) 237 r1_1 rfl kj (Qa1 129 _ _ g 1 237 _ _ r1_1 rfl kj kj kj (show 1<6 by decide)) fun W2 p2 r1_2=>sg 1 kj <| sgN hK4 <| sgB kj <| wp_block <| wp_loop_rounds 5 ?_
  show Code.wp _ _ (Exit.then (Code.rounds _ _ _ 4) _) _ _
  refine wp_seq_k fun K6 hK6=>sgB kj <| cond_true kj <| wp_skip <| hK6 _ _ <| wp_seq_k fun K8 hK8=>wp_block <| sgC fun K9 hK9=>sg 3 kj <| Qaa (.int .u64 q2_) 37 rfl kj (Qah 129 _ g 2 237 _ (.int .u64 q2_) _ r1_2 rfl kj kj kj) ?_
  refine sg 2 kj ?_
  obtain ⟨s2,d2,hs2,hd2,he2,ra2⟩:=QcD (q2_) (hi_) (d1) hq2_ hhi hd1
  refine Qaa (.tuple #[.int .u64 (s2),.int .u64 (d2)]) 40 rfl kj (Qbg (f:=166) (args:=#[.int .u64 q2_,.int .u64 (hi_),.int .u64 (d1)]) _ _ _ rfl kj kj (ra2 _)) <| sg 4 kj <| Qal g _ (ints .u64 ([q0_,(s1),(s2),q3_,q4_,q5_])) 237 r1_2 rfl kj (Qa1 129 _ _ g 2 237 _ _ r1_2 rfl kj kj kj (show 2<6 by decide)) fun W3 p3 r1_3=>sg 1 kj <| sgN hK9 <| sgA kj <| hK8 _ _ <| sgA kj ?_
  show Code.rounds _ _ _ 4 _ _
  show Code.wp _ _ (Exit.then (Code.rounds _ _ _ 3) _) _ _
  refine wp_seq_k fun K10 hK10=>sgB kj <| cond_true kj <| wp_skip <| hK10 _ _ <| wp_seq_k fun K12 hK12=>wp_block <| sgC fun K13 hK13=>sg 3 kj <| Qaa (.int .u64 q3_) 37 rfl kj (Qah 129 _ g 3 237 _ (.int .u64 q3_) _ r1_3 rfl kj kj kj) ?_
  refine sg 2 kj ?_
  obtain ⟨s3,d3,hs3,hd3,he3,ra3⟩:=QcD (q3_) (0) (d2) hq3_ Qbu hd2
  refine Qaa (.tuple #[.int .u64 (s3),.int .u64 (d3)]) 40 rfl kj (Qbg (f:=166) (args:=#[.int .u64 q3_,.int .u64 0,.int .u64 (d2)]) _ _ _ rfl kj kj (ra3 _)) <| sg 4 kj <| Qal g _ (ints .u64 ([q0_,(s1),(s2),(s3),q4_,q5_])) 237 r1_3 rfl kj (Qa1 129 _ _ g 3 237 _ _ r1_3 rfl kj kj kj (show 3<6 by decide)) fun W4 p4 r1_4=>sg 1 kj <| sgN hK13 <| sgA kj <| hK12 _ _ <| sgA kj ?_
  show Code.rounds _ _ _ 3 _ _
  show Code.wp _ _ (Exit.then (Code.rounds _ _ _ 2) _) _ _
  refine wp_seq_k fun K14 hK14=>sgB kj <| cond_true kj <| wp_skip <| hK14 _ _ <| wp_seq_k fun K16 hK16=>wp_block <| sgC fun K17 hK17=>sg 3 kj <| Qaa (.int .u64 q4_) 37 rfl kj (Qah 129 _ g 4 237 _ (.int .u64 q4_) _ r1_4 rfl kj kj kj) ?_
  refine sg 2 kj ?_
  obtain ⟨s4,d4,hs4,hd4,he4,ra4⟩:=QcD (q4_) (0) (d3) hq4_ Qbu hd3
  refine Qaa (.tuple #[.int .u64 (s4),.int .u64 (d4)]) 40 rfl kj (Qbg (f:=166) (args:=#[.int .u64 q4_,.int .u64 0,.int .u64 (d3)]) _ _ _ rfl kj kj (ra4 _)) <| sg 4 kj <| Qal g _ (ints .u64 ([q0_,(s1),(s2),(s3),(s4),q5_])) 237 r1_4 rfl kj (Qa1 129 _ _ g 4 237 _ _ r1_4 rfl kj kj kj (show 4<6 by decide)) fun W5 p5 r1_5=>sg 1 kj <| sgN hK17 <| sgA kj <| hK16 _ _ <| sgA kj ?_
  show Code.rounds _ _ _ 2 _ _
  show Code.wp _ _ (Exit.then (Code.rounds _ _ _ 1) _) _ _
  refine wp_seq_k fun K18 hK18=>sgB kj <| cond_true kj <| wp_skip <| hK18 _ _ <| wp_seq_k fun K20 hK20=>wp_block <| sgC fun K21 hK21=>sg 3 kj <| Qaa (.int .u64 q5_) 37 rfl kj (Qah 129 _ g 5 237 _ (.int .u64 q5_) _ r1_5 rfl kj kj kj) ?_
  refine sg 2 kj ?_
  obtain ⟨s5,d5,hs5,hd5,he5,ra5⟩:=QcD (q5_) (0) (d4) hq5_ Qbu hd4
  refine Qaa (.tuple #[.int .u64 (s5),.int .u64 (d5)]) 40 rfl kj (Qbg (f:=166) (args:=#[.int .u64 q5_,.int .u64 0,.int .u64 (d4)]) _ _ _ rfl kj kj (ra5 _)) <| sg 4 kj <| Qal g _ (ints .u64 ([q0_,(s1),(s2),(s3),(s4),(s5)])) 237 r1_5 rfl kj (Qa1 129 _ _ g 5 237 _ _ r1_5 rfl kj kj kj (show 5<6 by decide)) fun W6 p6 r1_6=>sg 1 kj <| sgN hK21 <| sgA kj <| hK20 _ _ <| sgA kj ?_
  show Code.rounds _ _ _ 1 _ _
  show Code.wp _ _ (Exit.then (Code.rounds _ _ _ 0) _) _ _
  refine wp_seq_k fun K22 hK22=>sgB kj <| cond_false kj <| wp_exit ?_
  repeat (first | with_reducible refine goX1 ?_ | with_reducible refine goX2 ?_ | with_reducible refine goX3 ?_)
  exact (show bodyPost _ _ _ .normal _ _ from end0 rfl ⟨rfl,q0_,s1,s2,s3,s4,s5,hq0_,hs1,hs2,hs3,hs4,hs5,(by obtain ⟨u1,v1⟩:=id hs1; obtain ⟨u2,v2⟩:=id hs2; obtain ⟨u3,v3⟩:=id hs3; obtain ⟨u4,v4⟩:=id hs4; obtain ⟨u5,v5⟩:=id hs5; obtain ⟨uq0,vq0⟩:=id hq0_; obtain ⟨uq1,vq1⟩:=id hq1_; obtain ⟨uq2,vq2⟩:=id hq2_; obtain ⟨uq3,vq3⟩:=id hq3_; obtain ⟨uq4,vq4⟩:=id hq4_; obtain ⟨uq5,vq5⟩:=id hq5_; obtain ⟨ud1,vd1⟩:=id hd1; obtain ⟨ud2,vd2⟩:=id hd2; obtain ⟨ud3,vd3⟩:=id hd3; obtain ⟨ud4,vd4⟩:=id hd4; obtain ⟨ud5,vd5⟩:=id hd5; obtain ⟨uh1,uh2⟩:=id hhi; obtain ⟨ul1,ul2⟩:=id hlo; omega),(ExtB.puts (ExtB.puts (ExtB.puts (ExtB.puts (ExtB.puts (ExtB.ext (ExtB.refl g w) e1) p2) p3) p4) p5) p6),r1_6⟩)
set_option maxRecDepth 100000 in
theorem Qid (g : Nat) (q0_ q1_ q2_ q3_ q4_ q5_ xx yy p:Int) (hq0_:isW q0_) (hq1_:isW q1_) (hq2_:isW q2_) (hq3_:isW q3_) (hq4_:isW q4_) (hq5_:isW q5_) (hxx:isW xx) (hyy:isW yy) (hp:xx*yy=p) (hlt:(q0_+18446744073709551616*q1_+340282366920938463463374607431768211456*q2_+6277101735386680763835789423207666416102355444464034512896*q3_+115792089237316195423570985008687907853269984665640564039457584007913129639936*q4_+2135987035920910082395021706169552114602704522356652769947041607822219725780640550022962086936576*q5_)+340282366920938463463374607431768211456*p<39402006196394479212279040100143613805079739270465446667948293404245721771497210611414266254884915640806627990306816) (w:World) (hg:w.heap[g]? = some (.cells (ints .u64 [q0_,q1_,q2_,q3_,q4_,q5_]) 237)) :
    Calls Tryd.prog 168 #[.int .i64 2,.int .u64 xx,.int .u64 yy,.pointer (some ⟨g,0,none⟩)] w (fun e W=>e=.returned (.tuple #[])∧∃ r0 r1 r2 r3 r4 r5:Int,isW r0∧isW r1∧isW r2∧isW r3∧isW r4∧isW r5∧(r0+18446744073709551616*r1+340282366920938463463374607431768211456*r2+6277101735386680763835789423207666416102355444464034512896*r3+115792089237316195423570985008687907853269984665640564039457584007913129639936*r4+2135987035920910082395021706169552114602704522356652769947041607822219725780640550022962086936576*r5)=(q0_+18446744073709551616*q1_+340282366920938463463374607431768211456*q2_+6277101735386680763835789423207666416102355444464034512896*q3_+115792089237316195423570985008687907853269984665640564039457584007913129639936*q4_+2135987035920910082395021706169552114602704522356652769947041607822219725780640550022962086936576*q5_)+340282366920938463463374607431768211456*p∧ExtB g w W∧W.heap[g]? = some (.cells (ints .u64 [r0,r1,r2,r3,r4,r5]) 237)):=by
  refine enter 44 [(0,.int .i64 2),(1,.int .u64 (xx)),(2,.int .u64 (yy)),(3,.pointer (some ⟨g,0,none⟩))] Tryd.func168 rfl rfl kj rfl <| sgC fun K2 hK2=>sg 2 kj ?_
  obtain ⟨hi_,lo_,hhi,hlo,hml,cml⟩:=Qic xx yy hxx hyy
  rw [hp] at hml
  refine Qan (.tuple #[.int .u64 (hi_),.int .u64 (lo_)]) 169 #[.int .u64 (xx),.int .u64 (yy)] 14 rfl kj kj ((mulR (cml _))) fun W1 e1=>sg 5 kj <| sgN hK2 <| sgB kj <| sgC fun K4 hK4=>sg 3 kj ?_
  have r1_1:=(Qab hg e1)
  refine Qaa (.int .u64 q2_) 21 rfl kj (Qah 129 _ g 2 237 _ (.int .u64 q2_) _ r1_1 rfl kj kj kj) <| sg 1 kj ?_
  obtain ⟨s1,d1,hs1,hd1,he1,ra1⟩:=QcD (q2_) (lo_) (0) hq2_ hlo ⟨by decide,by decide⟩
  refine Qaa (.tuple #[.int .u64 (s1),.int .u64 (d1)]) 23 rfl kj (Qbg (f:=166) (args:=#[.int .u64 q2_,.int .u64 (lo_),.int .u64 0]) _ _ _ rfl kj kj (ra1 _)) <| sg 4 kj <| Qal g _ (ints .u64 ([q0_,q1_,(s1),q3_,q4_,q5_])) 237 r1_1 rfl kj (Qa1 129 _ _ g 2 237 _ _ r1_1 rfl kj kj kj (show 2<6 by decide)) fun W2 p2 r1_2=>sg 1 kj <| sgN hK4 <| sgB kj <| wp_block <| wp_loop_rounds 4 ?_
  show Code.wp _ _ (Exit.then (Code.rounds _ _ _ 3) _) _ _
  refine wp_seq_k fun K6 hK6=>sgB kj <| cond_true kj <| wp_skip <| hK6 _ _ <| wp_seq_k fun K8 hK8=>wp_block <| sgC fun K9 hK9=>sg 3 kj <| Qaa (.int .u64 q3_) 37 rfl kj (Qah 129 _ g 3 237 _ (.int .u64 q3_) _ r1_2 rfl kj kj kj) ?_
  refine sg 2 kj ?_
  obtain ⟨s2,d2,hs2,hd2,he2,ra2⟩:=QcD (q3_) (hi_) (d1) hq3_ hhi hd1
  refine Qaa (.tuple #[.int .u64 (s2),.int .u64 (d2)]) 40 rfl kj (Qbg (f:=166) (args:=#[.int .u64 q3_,.int .u64 (hi_),.int .u64 (d1)]) _ _ _ rfl kj kj (ra2 _)) <| sg 4 kj <| Qal g _ (ints .u64 ([q0_,q1_,(s1),(s2),q4_,q5_])) 237 r1_2 rfl kj (Qa1 129 _ _ g 3 237 _ _ r1_2 rfl kj kj kj (show 3<6 by decide)) fun W3 p3 r1_3=>sg 1 kj <| sgN hK9 <| sgA kj <| hK8 _ _ <| sgA kj ?_
  show Code.rounds _ _ _ 3 _ _
  show Code.wp _ _ (Exit.then (Code.rounds _ _ _ 2) _) _ _
  refine wp_seq_k fun K10 hK10=>sgB kj <| cond_true kj <| wp_skip <| hK10 _ _ <| wp_seq_k fun K12 hK12=>wp_block <| sgC fun K13 hK13=>sg 3 kj <| Qaa (.int .u64 q4_) 37 rfl kj (Qah 129 _ g 4 237 _ (.int .u64 q4_) _ r1_3 rfl kj kj kj) ?_
  refine sg 2 kj ?_
  obtain ⟨s3,d3,hs3,hd3,he3,ra3⟩:=QcD (q4_) (0) (d2) hq4_ Qbu hd2
  refine Qaa (.tuple #[.int .u64 (s3),.int .u64 (d3)]) 40 rfl kj (Qbg (f:=166) (args:=#[.int .u64 q4_,.int .u64 0,.int .u64 (d2)]) _ _ _ rfl kj kj (ra3 _)) <| sg 4 kj <| Qal g _ (ints .u64 ([q0_,q1_,(s1),(s2),(s3),q5_])) 237 r1_3 rfl kj (Qa1 129 _ _ g 4 237 _ _ r1_3 rfl kj kj kj (show 4<6 by decide)) fun W4 p4 r1_4=>sg 1 kj <| sgN hK13 <| sgA kj <| hK12 _ _ <| sgA kj ?_
  show Code.rounds _ _ _ 2 _ _
  show Code.wp _ _ (Exit.then (Code.rounds _ _ _ 1) _) _ _
  refine wp_seq_k fun K14 hK14=>sgB kj <| cond_true kj <| wp_skip <| hK14 _ _ <| wp_seq_k fun K16 hK16=>wp_block <| sgC fun K17 hK17=>sg 3 kj <| Qaa (.int .u64 q5_) 37 rfl kj (Qah 129 _ g 5 237 _ (.int .u64 q5_) _ r1_4 rfl kj kj kj) ?_
  refine sg 2 kj ?_
  obtain ⟨s4,d4,hs4,hd4,he4,ra4⟩:=QcD (q5_) (0) (d3) hq5_ Qbu hd3
  refine Qaa (.tuple #[.int .u64 (s4),.int .u64 (d4)]) 40 rfl kj (Qbg (f:=166) (args:=#[.int .u64 q5_,.int .u64 0,.int .u64 (d3)]) _ _ _ rfl kj kj (ra4 _)) <| sg 4 kj <| Qal g _ (ints .u64 ([q0_,q1_,(s1),(s2),(s3),(s4)])) 237 r1_4 rfl kj (Qa1 129 _ _ g 5 237 _ _ r1_4 rfl kj kj kj (show 5<6 by decide)) fun W5 p5 r1_5=>sg 1 kj <| sgN hK17 <| sgA kj <| hK16 _ _ <| sgA kj ?_
  show Code.rounds _ _ _ 1 _ _
  show Code.wp _ _ (Exit.then (Code.rounds _ _ _ 0) _) _ _
  refine wp_seq_k fun K18 hK18=>sgB kj <| cond_false kj <| wp_exit ?_
  repeat (first | with_reducible refine goX1 ?_ | with_reducible refine goX2 ?_ | with_reducible refine goX3 ?_)
  exact (show bodyPost _ _ _ .normal _ _ from end0 rfl ⟨rfl,q0_,q1_,s1,s2,s3,s4,hq0_,hq1_,hs1,hs2,hs3,hs4,(by obtain ⟨u1,v1⟩:=id hs1; obtain ⟨u2,v2⟩:=id hs2; obtain ⟨u3,v3⟩:=id hs3; obtain ⟨u4,v4⟩:=id hs4; obtain ⟨uq0,vq0⟩:=id hq0_; obtain ⟨uq1,vq1⟩:=id hq1_; obtain ⟨uq2,vq2⟩:=id hq2_; obtain ⟨uq3,vq3⟩:=id hq3_; obtain ⟨uq4,vq4⟩:=id hq4_; obtain ⟨uq5,vq5⟩:=id hq5_; obtain ⟨ud1,vd1⟩:=id hd1; obtain ⟨ud2,vd2⟩:=id hd2; obtain ⟨ud3,vd3⟩:=id hd3; obtain ⟨ud4,vd4⟩:=id hd4; obtain ⟨uh1,uh2⟩:=id hhi; obtain ⟨ul1,ul2⟩:=id hlo; omega),(ExtB.puts (ExtB.puts (ExtB.puts (ExtB.puts (ExtB.ext (ExtB.refl g w) e1) p2) p3) p4) p5),r1_5⟩)
set_option maxRecDepth 100000 in
theorem Qj1 (g : Nat) (q0_ q1_ q2_ q3_ q4_ q5_ xx yy p:Int) (hq0_:isW q0_) (hq1_:isW q1_) (hq2_:isW q2_) (hq3_:isW q3_) (hq4_:isW q4_) (hq5_:isW q5_) (hxx:isW xx) (hyy:isW yy) (hp:xx*yy=p) (hlt:(q0_+18446744073709551616*q1_+340282366920938463463374607431768211456*q2_+6277101735386680763835789423207666416102355444464034512896*q3_+115792089237316195423570985008687907853269984665640564039457584007913129639936*q4_+2135987035920910082395021706169552114602704522356652769947041607822219725780640550022962086936576*q5_)+6277101735386680763835789423207666416102355444464034512896*p<39402006196394479212279040100143613805079739270465446667948293404245721771497210611414266254884915640806627990306816) (w:World) (hg:w.heap[g]? = some (.cells (ints .u64 [q0_,q1_,q2_,q3_,q4_,q5_]) 237)) :
    Calls Tryd.prog 168 #[.int .i64 3,.int .u64 xx,.int .u64 yy,.pointer (some ⟨g,0,none⟩)] w (fun e W=>e=.returned (.tuple #[])∧∃ r0 r1 r2 r3 r4 r5:Int,isW r0∧isW r1∧isW r2∧isW r3∧isW r4∧isW r5∧(r0+18446744073709551616*r1+340282366920938463463374607431768211456*r2+6277101735386680763835789423207666416102355444464034512896*r3+115792089237316195423570985008687907853269984665640564039457584007913129639936*r4+2135987035920910082395021706169552114602704522356652769947041607822219725780640550022962086936576*r5)=(q0_+18446744073709551616*q1_+340282366920938463463374607431768211456*q2_+6277101735386680763835789423207666416102355444464034512896*q3_+115792089237316195423570985008687907853269984665640564039457584007913129639936*q4_+2135987035920910082395021706169552114602704522356652769947041607822219725780640550022962086936576*q5_)+6277101735386680763835789423207666416102355444464034512896*p∧ExtB g w W∧W.heap[g]? = some (.cells (ints .u64 [r0,r1,r2,r3,r4,r5]) 237)):=by
  refine enter 44 [(0,.int .i64 3),(1,.int .u64 (xx)),(2,.int .u64 (yy)),(3,.pointer (some ⟨g,0,none⟩))] Tryd.func168 rfl rfl kj rfl <| sgC fun K2 hK2=>sg 2 kj ?_
  obtain ⟨hi_,lo_,hhi,hlo,hml,cml⟩:=Qic xx yy hxx hyy
  rw [hp] at hml
  refine Qan (.tuple #[.int .u64 (hi_),.int .u64 (lo_)]) 169 #[.int .u64 (xx),.int .u64 (yy)] 14 rfl kj kj ((mulR (cml _))) fun W1 e1=>sg 5 kj <| sgN hK2 <| sgB kj <| sgC fun K4 hK4=>sg 3 kj ?_
  have r1_1:=(Qab hg e1)
  refine Qaa (.int .u64 q3_) 21 rfl kj (Qah 129 _ g 3 237 _ (.int .u64 q3_) _ r1_1 rfl kj kj kj) <| sg 1 kj ?_
  obtain ⟨s1,d1,hs1,hd1,he1,ra1⟩:=QcD (q3_) (lo_) (0) hq3_ hlo ⟨by decide,by decide⟩
  refine Qaa (.tuple #[.int .u64 (s1),.int .u64 (d1)]) 23 rfl kj (Qbg (f:=166) (args:=#[.int .u64 q3_,.int .u64 (lo_),.int .u64 0]) _ _ _ rfl kj kj (ra1 _)) <| sg 4 kj <| Qal g _ (ints .u64 ([q0_,q1_,q2_,(s1),q4_,q5_])) 237 r1_1 rfl kj (Qa1 129 _ _ g 3 237 _ _ r1_1 rfl kj kj kj (show 3<6 by decide)) fun W2 p2 r1_2=>sg 1 kj <| sgN hK4 <| sgB kj <| wp_block <| wp_loop_rounds 3 ?_
  show Code.wp _ _ (Exit.then (Code.rounds _ _ _ 2) _) _ _
  refine wp_seq_k fun K6 hK6=>sgB kj <| cond_true kj <| wp_skip <| hK6 _ _ <| wp_seq_k fun K8 hK8=>wp_block <| sgC fun K9 hK9=>sg 3 kj <| Qaa (.int .u64 q4_) 37 rfl kj (Qah 129 _ g 4 237 _ (.int .u64 q4_) _ r1_2 rfl kj kj kj) ?_
  refine sg 2 kj ?_
  obtain ⟨s2,d2,hs2,hd2,he2,ra2⟩:=QcD (q4_) (hi_) (d1) hq4_ hhi hd1
  refine Qaa (.tuple #[.int .u64 (s2),.int .u64 (d2)]) 40 rfl kj (Qbg (f:=166) (args:=#[.int .u64 q4_,.int .u64 (hi_),.int .u64 (d1)]) _ _ _ rfl kj kj (ra2 _)) <| sg 4 kj <| Qal g _ (ints .u64 ([q0_,q1_,q2_,(s1),(s2),q5_])) 237 r1_2 rfl kj (Qa1 129 _ _ g 4 237 _ _ r1_2 rfl kj kj kj (show 4<6 by decide)) fun W3 p3 r1_3=>sg 1 kj <| sgN hK9 <| sgA kj <| hK8 _ _ <| sgA kj ?_
  show Code.rounds _ _ _ 2 _ _
  show Code.wp _ _ (Exit.then (Code.rounds _ _ _ 1) _) _ _
  refine wp_seq_k fun K10 hK10=>sgB kj <| cond_true kj <| wp_skip <| hK10 _ _ <| wp_seq_k fun K12 hK12=>wp_block <| sgC fun K13 hK13=>sg 3 kj <| Qaa (.int .u64 q5_) 37 rfl kj (Qah 129 _ g 5 237 _ (.int .u64 q5_) _ r1_3 rfl kj kj kj) ?_
  refine sg 2 kj ?_
  obtain ⟨s3,d3,hs3,hd3,he3,ra3⟩:=QcD (q5_) (0) (d2) hq5_ Qbu hd2
  refine Qaa (.tuple #[.int .u64 (s3),.int .u64 (d3)]) 40 rfl kj (Qbg (f:=166) (args:=#[.int .u64 q5_,.int .u64 0,.int .u64 (d2)]) _ _ _ rfl kj kj (ra3 _)) <| sg 4 kj <| Qal g _ (ints .u64 ([q0_,q1_,q2_,(s1),(s2),(s3)])) 237 r1_3 rfl kj (Qa1 129 _ _ g 5 237 _ _ r1_3 rfl kj kj kj (show 5<6 by decide)) fun W4 p4 r1_4=>sg 1 kj <| sgN hK13 <| sgA kj <| hK12 _ _ <| sgA kj ?_
  show Code.rounds _ _ _ 1 _ _
  show Code.wp _ _ (Exit.then (Code.rounds _ _ _ 0) _) _ _
  refine wp_seq_k fun K14 hK14=>sgB kj <| cond_false kj <| wp_exit ?_
  repeat (first | with_reducible refine goX1 ?_ | with_reducible refine goX2 ?_ | with_reducible refine goX3 ?_)
  exact (show bodyPost _ _ _ .normal _ _ from end0 rfl ⟨rfl,q0_,q1_,q2_,s1,s2,s3,hq0_,hq1_,hq2_,hs1,hs2,hs3,(by obtain ⟨u1,v1⟩:=id hs1; obtain ⟨u2,v2⟩:=id hs2; obtain ⟨u3,v3⟩:=id hs3; obtain ⟨uq0,vq0⟩:=id hq0_; obtain ⟨uq1,vq1⟩:=id hq1_; obtain ⟨uq2,vq2⟩:=id hq2_; obtain ⟨uq3,vq3⟩:=id hq3_; obtain ⟨uq4,vq4⟩:=id hq4_; obtain ⟨uq5,vq5⟩:=id hq5_; obtain ⟨ud1,vd1⟩:=id hd1; obtain ⟨ud2,vd2⟩:=id hd2; obtain ⟨ud3,vd3⟩:=id hd3; obtain ⟨uh1,uh2⟩:=id hhi; obtain ⟨ul1,ul2⟩:=id hlo; omega),(ExtB.puts (ExtB.puts (ExtB.puts (ExtB.ext (ExtB.refl g w) e1) p2) p3) p4),r1_4⟩)
set_option maxRecDepth 100000 in
theorem QkM (g : Nat) (q0_ q1_ q2_ q3_ q4_ q5_ xx yy p:Int) (hq0_:isW q0_) (hq1_:isW q1_) (hq2_:isW q2_) (hq3_:isW q3_) (hq4_:isW q4_) (hq5_:isW q5_) (hxx:isW xx) (hyy:isW yy) (hp:xx*yy=p) (hlt:(q0_+18446744073709551616*q1_+340282366920938463463374607431768211456*q2_+6277101735386680763835789423207666416102355444464034512896*q3_+115792089237316195423570985008687907853269984665640564039457584007913129639936*q4_+2135987035920910082395021706169552114602704522356652769947041607822219725780640550022962086936576*q5_)+115792089237316195423570985008687907853269984665640564039457584007913129639936*p<39402006196394479212279040100143613805079739270465446667948293404245721771497210611414266254884915640806627990306816) (w:World) (hg:w.heap[g]? = some (.cells (ints .u64 [q0_,q1_,q2_,q3_,q4_,q5_]) 237)) :
    Calls Tryd.prog 168 #[.int .i64 4,.int .u64 xx,.int .u64 yy,.pointer (some ⟨g,0,none⟩)] w (fun e W=>e=.returned (.tuple #[])∧∃ r0 r1 r2 r3 r4 r5:Int,isW r0∧isW r1∧isW r2∧isW r3∧isW r4∧isW r5∧(r0+18446744073709551616*r1+340282366920938463463374607431768211456*r2+6277101735386680763835789423207666416102355444464034512896*r3+115792089237316195423570985008687907853269984665640564039457584007913129639936*r4+2135987035920910082395021706169552114602704522356652769947041607822219725780640550022962086936576*r5)=(q0_+18446744073709551616*q1_+340282366920938463463374607431768211456*q2_+6277101735386680763835789423207666416102355444464034512896*q3_+115792089237316195423570985008687907853269984665640564039457584007913129639936*q4_+2135987035920910082395021706169552114602704522356652769947041607822219725780640550022962086936576*q5_)+115792089237316195423570985008687907853269984665640564039457584007913129639936*p∧ExtB g w W∧W.heap[g]? = some (.cells (ints .u64 [r0,r1,r2,r3,r4,r5]) 237)):=by
  refine enter 44 [(0,.int .i64 4),(1,.int .u64 (xx)),(2,.int .u64 (yy)),(3,.pointer (some ⟨g,0,none⟩))] Tryd.func168 rfl rfl kj rfl <| sgC fun K2 hK2=>sg 2 kj ?_
  obtain ⟨hi_,lo_,hhi,hlo,hml,cml⟩:=Qic xx yy hxx hyy
  rw [hp] at hml
  refine Qan (.tuple #[.int .u64 (hi_),.int .u64 (lo_)]) 169 #[.int .u64 (xx),.int .u64 (yy)] 14 rfl kj kj ((mulR (cml _))) fun W1 e1=>sg 5 kj <| sgN hK2 <| sgB kj <| sgC fun K4 hK4=>sg 3 kj ?_
  have r1_1:=(Qab hg e1)
  refine Qaa (.int .u64 q4_) 21 rfl kj (Qah 129 _ g 4 237 _ (.int .u64 q4_) _ r1_1 rfl kj kj kj) <| sg 1 kj ?_
  obtain ⟨s1,d1,hs1,hd1,he1,ra1⟩:=QcD (q4_) (lo_) (0) hq4_ hlo ⟨by decide,by decide⟩
  refine Qaa (.tuple #[.int .u64 (s1),.int .u64 (d1)]) 23 rfl kj (Qbg (f:=166) (args:=#[.int .u64 q4_,.int .u64 (lo_),.int .u64 0]) _ _ _ rfl kj kj (ra1 _)) <| sg 4 kj <| Qal g _ (ints .u64 ([q0_,q1_,q2_,q3_,(s1),q5_])) 237 r1_1 rfl kj (Qa1 129 _ _ g 4 237 _ _ r1_1 rfl kj kj kj (show 4<6 by decide)) fun W2 p2 r1_2=>sg 1 kj <| sgN hK4 <| sgB kj <| wp_block <| wp_loop_rounds 2 ?_
  show Code.wp _ _ (Exit.then (Code.rounds _ _ _ 1) _) _ _
  refine wp_seq_k fun K6 hK6=>sgB kj <| cond_true kj <| wp_skip <| hK6 _ _ <| wp_seq_k fun K8 hK8=>wp_block <| sgC fun K9 hK9=>sg 3 kj <| Qaa (.int .u64 q5_) 37 rfl kj (Qah 129 _ g 5 237 _ (.int .u64 q5_) _ r1_2 rfl kj kj kj) ?_
  refine sg 2 kj ?_
  obtain ⟨s2,d2,hs2,hd2,he2,ra2⟩:=QcD (q5_) (hi_) (d1) hq5_ hhi hd1
  refine Qaa (.tuple #[.int .u64 (s2),.int .u64 (d2)]) 40 rfl kj (Qbg (f:=166) (args:=#[.int .u64 q5_,.int .u64 (hi_),.int .u64 (d1)]) _ _ _ rfl kj kj (ra2 _)) <| sg 4 kj <| Qal g _ (ints .u64 ([q0_,q1_,q2_,q3_,(s1),(s2)])) 237 r1_2 rfl kj (Qa1 129 _ _ g 5 237 _ _ r1_2 rfl kj kj kj (show 5<6 by decide)) fun W3 p3 r1_3=>sg 1 kj <| sgN hK9 <| sgA kj <| hK8 _ _ <| sgA kj ?_
  show Code.rounds _ _ _ 1 _ _
  show Code.wp _ _ (Exit.then (Code.rounds _ _ _ 0) _) _ _
  refine wp_seq_k fun K10 hK10=>sgB kj <| cond_false kj <| wp_exit ?_
  repeat (first | with_reducible refine goX1 ?_ | with_reducible refine goX2 ?_ | with_reducible refine goX3 ?_)
  exact (show bodyPost _ _ _ .normal _ _ from end0 rfl ⟨rfl,q0_,q1_,q2_,q3_,s1,s2,hq0_,hq1_,hq2_,hq3_,hs1,hs2,(by obtain ⟨u1,v1⟩:=id hs1; obtain ⟨u2,v2⟩:=id hs2; obtain ⟨uq0,vq0⟩:=id hq0_; obtain ⟨uq1,vq1⟩:=id hq1_; obtain ⟨uq2,vq2⟩:=id hq2_; obtain ⟨uq3,vq3⟩:=id hq3_; obtain ⟨uq4,vq4⟩:=id hq4_; obtain ⟨uq5,vq5⟩:=id hq5_; obtain ⟨ud1,vd1⟩:=id hd1; obtain ⟨ud2,vd2⟩:=id hd2; obtain ⟨uh1,uh2⟩:=id hhi; obtain ⟨ul1,ul2⟩:=id hlo; omega),(ExtB.puts (ExtB.puts (ExtB.ext (ExtB.refl g w) e1) p2) p3),r1_3⟩)
end Go.Proofs.YtoiendjhplbjjaaDoor.Ae
end
section
namespace Go.Proofs.YtoiendjhplbjjaaDoor.Ae
open Go Go.RowKit
open Rely Auto Own Sha
open Sha Cha
def mulV (v : Int):Int:=v%1361129467683753853853498429727072845824+5*(v/1361129467683753853853498429727072845824)
theorem shr2 (q : Int) (h:isW q):q.fdiv (2^min (2:Int).toNat IntKind.u64.bits)=q/4:=by
  have e:(2:Int)^min (2:Int).toNat IntKind.u64.bits=4:=by decide
  rw [e,Int.fdiv_eq_ediv_of_nonneg _ (by decide)]
theorem Qle (q : Int) (h:isW q):IntKind.u64.wrap (q*2^min (62:Int).toNat IntKind.u64.bits)=q%4*4611686018427387904:=by
  have e:(2:Int)^min (62:Int).toNat IntKind.u64.bits=4611686018427387904:=by decide
  have h3:∀ z:Int,IntKind.u64.wrap z=z%18446744073709551616:=fun _=>rfl
  rw [e,h3]
  obtain ⟨h1,h2⟩:=h
  omega
theorem or62 (q r:Int) (hq:isW q) (hr:isW r):bits .or .u64 (q/4) (r%4*4611686018427387904)=q/4+r%4*4611686018427387904:=by
  obtain ⟨q0,q1⟩:=hq
  obtain ⟨r0,r1⟩:=hr
  obtain ⟨A,hA⟩:=Int.eq_ofNat_of_zero_le (show 0≤q/4 by omega)
  obtain ⟨C,hC⟩:=Int.eq_ofNat_of_zero_le (show 0≤r%4 by omega)
  rw [hA,hC]
  have hA2:A<2^62:=by omega
  have hC2:C<4:=by omega
  have e:((C:Nat):Int)*4611686018427387904=((C*4611686018427387904:Nat):Int):=by rw [Int.natCast_mul]; rfl
  rw [e,bits_or_u64_nat A (C*4611686018427387904) (by omega) (by omega)]
  have h:=Nat.shiftLeft_add_eq_or_of_lt hA2 C
  rw [Nat.shiftLeft_eq] at h
  rw [Nat.or_comm,←show C*2^62=C*4611686018427387904 from rfl,←h]
  rw [Int.natCast_add]; omega
theorem and3 (q : Int) (h:isW q):bits .and .u64 q 3=q%4:=by
  obtain ⟨A,rfl⟩:=Int.eq_ofNat_of_zero_le h.1
  have h:=bits_and_u64_nat A 3 (by have:=h.2; omega) (by omega)
  have e:A&&&3=A%4:=Nat.and_two_pow_sub_one_eq_mod A 2
  rw [e] at h
  exact h
theorem Qkf {a0 a1 a2 a3 a4 a5 e0 e1 f0 f1 f2 f3 f4 f5 v:Int} (ha0:isW a0) (ha1:isW a1) (ha2:isW a2) (ha3:isW a3) (ha4:isW a4) (ha5:isW a5) (hf0:isW f0) (hf1:isW f1) (hf2:isW f2) (hf3:isW f3) (hf4:isW f4) (hf5:isW f5)
    (ha:(a0+18446744073709551616*a1+340282366920938463463374607431768211456*a2+6277101735386680763835789423207666416102355444464034512896*a3+115792089237316195423570985008687907853269984665640564039457584007913129639936*a4+2135987035920910082395021706169552114602704522356652769947041607822219725780640550022962086936576*a5)=v) (hv:v<115792089237316195423570985008687907853269984665640564039457584007913129639936) (h0:e0=a2/4+a3%4*4611686018427387904) (h1:e1=a3/4)
    (hf:(f0+18446744073709551616*f1+340282366920938463463374607431768211456*f2+6277101735386680763835789423207666416102355444464034512896*f3+115792089237316195423570985008687907853269984665640564039457584007913129639936*f4+2135987035920910082395021706169552114602704522356652769947041607822219725780640550022962086936576*f5)=(a0+18446744073709551616*a1+340282366920938463463374607431768211456*(a2%4))+5*e0+18446744073709551616*(5*e1)):f0+18446744073709551616*f1+340282366920938463463374607431768211456*f2=mulV v:=by
  obtain ⟨a0a,a0b⟩:=ha0
  obtain ⟨a1a,a1b⟩:=ha1
  obtain ⟨a2a,a2b⟩:=ha2
  obtain ⟨a3a,a3b⟩:=ha3
  obtain ⟨a4a,-⟩:=ha4
  obtain ⟨a5a,-⟩:=ha5
  obtain ⟨f0a,f0b⟩:=hf0
  obtain ⟨f1a,f1b⟩:=hf1
  obtain ⟨f2a,f2b⟩:=hf2
  obtain ⟨f3a,-⟩:=hf3
  obtain ⟨f4a,-⟩:=hf4
  obtain ⟨f5a,-⟩:=hf5
  have z5:a5=0:=by omega
  have z4:a4=0:=by omega
  subst z5 z4
  have e3:v=a0+18446744073709551616*a1+340282366920938463463374607431768211456*(a2%4)+1361129467683753853853498429727072845824*(a2/4+4611686018427387904*a3):=by omega
  have hl:0≤a0+18446744073709551616*a1+340282366920938463463374607431768211456*(a2%4)∧a0+18446744073709551616*a1+340282366920938463463374607431768211456*(a2%4)<1361129467683753853853498429727072845824:=by omega
  have hm:v%1361129467683753853853498429727072845824=a0+18446744073709551616*a1+340282366920938463463374607431768211456*(a2%4):=by omega
  have hd:v/1361129467683753853853498429727072845824=a2/4+4611686018427387904*a3:=by omega
  have he:e0+18446744073709551616*e1=a2/4+4611686018427387904*a3:=by omega
  have hlt:a2/4+4611686018427387904*a3<85070591730234615865843651857942052864:=by omega
  have hsum:(f0+18446744073709551616*f1+340282366920938463463374607431768211456*f2+6277101735386680763835789423207666416102355444464034512896*f3+115792089237316195423570985008687907853269984665640564039457584007913129639936*f4+2135987035920910082395021706169552114602704522356652769947041607822219725780640550022962086936576*f5)<2722258935367507707706996859454145691648:=by omega
  have y5:f5=0:=by omega
  have y4:f4=0:=by omega
  have y3:f3=0:=by omega
  subst y5 y4 y3
  unfold mulV
  rw [hm,hd]
  omega
theorem QfN {a b:Int} (ha:0≤a) (hb:0≤b) (ha2:a<5444517870735015415413993718908291383296) (hb2:b<21267647932558653966460912964485513216):a*b<115792089237316195423570985008687907853269984665640564039457584007913129639936:=by
  have h1:a*b≤a*21267647932558653966460912964485513216:=Int.mul_le_mul_of_nonneg_left (by omega) ha
  omega
set_option maxRecDepth 100000 in
theorem mulW (m0_ m1_ m2_ n0_ n1_ n2_ va vb:Int) (hm0_:isW m0_) (hm1_:isW m1_) (hm2_:isW m2_) (hn0_:isW n0_) (hn1_:isW n1_) (hn2_:isW n2_) (hva:(m0_+18446744073709551616*m1_+340282366920938463463374607431768211456*m2_)=va) (hvb:(n0_+18446744073709551616*n1_+340282366920938463463374607431768211456*n2_)=vb) (hal:va<5444517870735015415413993718908291383296) (hbl:vb<21267647932558653966460912964485513216) (w:World) :
    Calls Tryd.prog 165 #[.agg (ints .u64 [m0_,m1_,m2_]),.agg (ints .u64 [n0_,n1_,n2_])] w (Ret w (.agg (ints .u64 (nw3 (mulV (va*vb)))))):=by
  obtain ⟨p00,ep00⟩:∃ z,z=m0_*n0_:=⟨_,rfl⟩
  have hp00:0≤p00:=by rw [ep00]; exact Int.mul_nonneg hm0_.1 hn0_.1
  obtain ⟨p01,ep01⟩:∃ z,z=m0_*n1_:=⟨_,rfl⟩
  have hp01:0≤p01:=by rw [ep01]; exact Int.mul_nonneg hm0_.1 hn1_.1
  obtain ⟨p02,ep02⟩:∃ z,z=m0_*n2_:=⟨_,rfl⟩
  have hp02:0≤p02:=by rw [ep02]; exact Int.mul_nonneg hm0_.1 hn2_.1
  obtain ⟨p10,ep10⟩:∃ z,z=m1_*n0_:=⟨_,rfl⟩
  have hp10:0≤p10:=by rw [ep10]; exact Int.mul_nonneg hm1_.1 hn0_.1
  obtain ⟨p11,ep11⟩:∃ z,z=m1_*n1_:=⟨_,rfl⟩
  have hp11:0≤p11:=by rw [ep11]; exact Int.mul_nonneg hm1_.1 hn1_.1
  obtain ⟨p12,ep12⟩:∃ z,z=m1_*n2_:=⟨_,rfl⟩
  have hp12:0≤p12:=by rw [ep12]; exact Int.mul_nonneg hm1_.1 hn2_.1
  obtain ⟨p20,ep20⟩:∃ z,z=m2_*n0_:=⟨_,rfl⟩
  have hp20:0≤p20:=by rw [ep20]; exact Int.mul_nonneg hm2_.1 hn0_.1
  obtain ⟨p21,ep21⟩:∃ z,z=m2_*n1_:=⟨_,rfl⟩
  have hp21:0≤p21:=by rw [ep21]; exact Int.mul_nonneg hm2_.1 hn1_.1
  obtain ⟨p22,ep22⟩:∃ z,z=m2_*n2_:=⟨_,rfl⟩
  have hp22:0≤p22:=by rw [ep22]; exact Int.mul_nonneg hm2_.1 hn2_.1
  have hT:1*p00+18446744073709551616*p01+340282366920938463463374607431768211456*p02+18446744073709551616*p10+340282366920938463463374607431768211456*p11+6277101735386680763835789423207666416102355444464034512896*p12+340282366920938463463374607431768211456*p20+6277101735386680763835789423207666416102355444464034512896*p21+115792089237316195423570985008687907853269984665640564039457584007913129639936*p22=va*vb:=by rw [ep00,ep01,ep02,ep10,ep11,ep12,ep20,ep21,ep22,←hva,←hvb]; grind
  have hTl:1*p00+18446744073709551616*p01+340282366920938463463374607431768211456*p02+18446744073709551616*p10+340282366920938463463374607431768211456*p11+6277101735386680763835789423207666416102355444464034512896*p12+340282366920938463463374607431768211456*p20+6277101735386680763835789423207666416102355444464034512896*p21+115792089237316195423570985008687907853269984665640564039457584007913129639936*p22<115792089237316195423570985008687907853269984665640564039457584007913129639936:=by
    rw [hT]
    obtain ⟨a0,a1⟩:=id hm0_; obtain ⟨a2,a3⟩:=id hm1_; obtain ⟨a4,a5⟩:=id hm2_; obtain ⟨c0,c1⟩:=id hn0_; obtain ⟨c2,c3⟩:=id hn1_; obtain ⟨c4,c5⟩:=id hn2_
    exact QfN (by omega) (by omega) hal hbl
  refine enter 70 [(0,.agg (ints .u64 ([m0_,m1_,m2_]))),(1,.agg (ints .u64 ([n0_,n1_,n2_])))] Tryd.func165 rfl rfl kj rfl <| sgC fun K1 hK1=>Qas (ints .u64 ([m0_,m1_,m2_])) 221 2 rfl kj kj fun g2 W1 l2 e1 r2_1=>?_
  have x1:=Ext.tr (Rely.Ext.refl w) e1
  have b2:=qT (Rely.Ext.refl w).size l2
  refine Qas (ints .u64 ([n0_,n1_,n2_])) 221 3 rfl kj kj fun g3 W2 l3 e2 r3_2=>?_
  have x2:=Ext.tr x1 e2
  have b3:=qT x1.size l3
  refine Qas (ints .u64 ([0,0,0])) 221 4 rfl kj kj fun g4 W3 l4 e3 r4_3=>?_
  have x3:=Ext.tr x2 e3
  refine sgN hK1 <| sgC fun K5 hK5=>Qas (ints .u64 ([0,0,0,0,0,0])) 237 5 rfl kj kj fun g6 W4 l6 e4 r6_4=>?_
  have b6:=qT x3.size l6
  refine sgN hK5 <| sgB kj <| wp_seq_k fun K8 hK8=>sgC fun K9 hK9=>Qaa (.agg (ints .u64 ([m0_,m1_,m2_]))) 15 rfl kj (Qao 221 _ g2 221 _ _ (Qab (Qab (Qab r2_1 e2) e3) e4) rfl kj kj (isz (n:=3) kj kj)) <| sg 1 kj <| sgN hK9 <| wp_block <| wp_loop_rounds 4 ?_
  show Code.wp _ _ (Exit.then (Code.rounds _ _ _ 3) _) _ _
  refine sgB kj <| sgT kj <| wp_seq_k fun K12 hK12=>wp_block <| sgC fun K13 hK13=>sg 1 kj <| Qaa (.int .u64 m0_) 19 rfl kj (QaH 221 _ _ .i64 .u64 ([m0_,m1_,m2_]) 0 3 129 m0_ rfl kj kj kj kj kj rfl (by decide) rfl) <| sg 2 kj <| sgN hK13 <| sgC fun K14 hK14=>?_
  have r3_3:=(Qab r3_2 e3)
  have r3_4:=(Qab r3_3 e4)
  refine Qaa (.agg (ints .u64 ([n0_,n1_,n2_]))) 20 rfl kj (Qao 221 _ g3 221 _ _ r3_4 rfl kj kj (isz (n:=3) kj kj)) <| sg 1 kj <| sgN hK14 <| wp_block <| wp_loop_rounds 4 ?_
  show Code.wp _ _ (Exit.then (Code.rounds _ _ _ 3) _) _ _
  refine sgB kj <| sgT kj <| wp_seq_k fun K17 hK17=>wp_block <| sgC fun K18 hK18=>sg 1 kj <| Qaa (.int .u64 n0_) 24 rfl kj (QaH 221 _ _ .i64 .u64 ([n0_,n1_,n2_]) 0 3 129 n0_ rfl kj kj kj kj kj rfl (by decide) rfl) <| sg 2 kj <| sgN hK18 <| Qac ?_
  refine sg 6 kj <| Qat (fun v W'=>v=.tuple #[]∧∃ r0 r1 r2 r3 r4 r5:Int,isW r0∧isW r1∧isW r2∧isW r3∧isW r4∧isW r5∧(r0+18446744073709551616*r1+340282366920938463463374607431768211456*r2+6277101735386680763835789423207666416102355444464034512896*r3+115792089237316195423570985008687907853269984665640564039457584007913129639936*r4+2135987035920910082395021706169552114602704522356652769947041607822219725780640550022962086936576*r5)=(0+18446744073709551616*0+340282366920938463463374607431768211456*0+6277101735386680763835789423207666416102355444464034512896*0+115792089237316195423570985008687907853269984665640564039457584007913129639936*0+2135987035920910082395021706169552114602704522356652769947041607822219725780640550022962086936576*0)+1*p00∧ExtB g6 W4 W'∧W'.heap[g6]? = some (.cells (ints .u64 [r0,r1,r2,r3,r4,r5]) 237)) 168 #[.int .i64 0,.int .u64 m0_,.int .u64 n0_,.pointer (some ⟨g6,0,none⟩)] 31 rfl kj kj ((Qj2 g6 0 0 0 0 0 0 m0_ n0_ p00 Qbu Qbu Qbu Qbu Qbu Qbu hm0_ hn0_ ep00.symm (by omega) _ r6_4).mono fun e w' h=>⟨_,h.1,rfl,h.2⟩) fun v W5 h=>?_
  obtain ⟨rfl,z1w0,z1w1,z1w2,z1w3,z1w4,z1w5,hz1w0,hz1w1,hz1w2,hz1w3,hz1w4,hz1w5,hV1,q5,r6_5⟩:=h
  have hS1:(z1w0+18446744073709551616*z1w1+340282366920938463463374607431768211456*z1w2+6277101735386680763835789423207666416102355444464034512896*z1w3+115792089237316195423570985008687907853269984665640564039457584007913129639936*z1w4+2135987035920910082395021706169552114602704522356652769947041607822219725780640550022962086936576*z1w5)=1*p00:=by omega
  refine Qae <| hK17 _ _ <| sgA kj ?_
  show Code.rounds _ _ _ 3 _ _
  show Code.wp _ _ (Exit.then (Code.rounds _ _ _ 2) _) _ _
  refine sgB kj <| sgT kj <| wp_seq_k fun K21 hK21=>wp_block <| sgC fun K22 hK22=>sg 1 kj <| Qaa (.int .u64 n1_) 24 rfl kj (QaH 221 _ _ .i64 .u64 ([n0_,n1_,n2_]) 1 3 129 n1_ rfl kj kj kj kj kj rfl (by decide) rfl) <| sg 2 kj <| sgN hK22 <| Qac ?_
  refine sg 6 kj <| Qat (fun v W'=>v=.tuple #[]∧∃ r0 r1 r2 r3 r4 r5:Int,isW r0∧isW r1∧isW r2∧isW r3∧isW r4∧isW r5∧(r0+18446744073709551616*r1+340282366920938463463374607431768211456*r2+6277101735386680763835789423207666416102355444464034512896*r3+115792089237316195423570985008687907853269984665640564039457584007913129639936*r4+2135987035920910082395021706169552114602704522356652769947041607822219725780640550022962086936576*r5)=(z1w0+18446744073709551616*z1w1+340282366920938463463374607431768211456*z1w2+6277101735386680763835789423207666416102355444464034512896*z1w3+115792089237316195423570985008687907853269984665640564039457584007913129639936*z1w4+2135987035920910082395021706169552114602704522356652769947041607822219725780640550022962086936576*z1w5)+18446744073709551616*p01∧ExtB g6 W5 W'∧W'.heap[g6]? = some (.cells (ints .u64 [r0,r1,r2,r3,r4,r5]) 237)) 168 #[.int .i64 1,.int .u64 m0_,.int .u64 n1_,.pointer (some ⟨g6,0,none⟩)] 31 rfl kj kj ((Qie g6 z1w0 z1w1 z1w2 z1w3 z1w4 z1w5 m0_ n1_ p01 hz1w0 hz1w1 hz1w2 hz1w3 hz1w4 hz1w5 hm0_ hn1_ ep01.symm (by rw [hS1]; omega) _ r6_5).mono fun e w' h=>⟨_,h.1,rfl,h.2⟩) fun v W6 h=>?_
  obtain ⟨rfl,z2w0,z2w1,z2w2,z2w3,z2w4,z2w5,hz2w0,hz2w1,hz2w2,hz2w3,hz2w4,hz2w5,hV2,q6,r6_6⟩:=h
  have hS2:(z2w0+18446744073709551616*z2w1+340282366920938463463374607431768211456*z2w2+6277101735386680763835789423207666416102355444464034512896*z2w3+115792089237316195423570985008687907853269984665640564039457584007913129639936*z2w4+2135987035920910082395021706169552114602704522356652769947041607822219725780640550022962086936576*z2w5)=1*p00+18446744073709551616*p01:=by omega
  refine Qae <| hK21 _ _ <| sgA kj ?_
  show Code.rounds _ _ _ 2 _ _
  show Code.wp _ _ (Exit.then (Code.rounds _ _ _ 1) _) _ _
  refine sgB kj <| sgT kj <| wp_seq_k fun K25 hK25=>wp_block <| sgC fun K26 hK26=>sg 1 kj <| Qaa (.int .u64 n2_) 24 rfl kj (QaH 221 _ _ .i64 .u64 ([n0_,n1_,n2_]) 2 3 129 n2_ rfl kj kj kj kj kj rfl (by decide) rfl) <| sg 2 kj <| sgN hK26 <| Qac ?_
  refine sg 6 kj <| Qat (fun v W'=>v=.tuple #[]∧∃ r0 r1 r2 r3 r4 r5:Int,isW r0∧isW r1∧isW r2∧isW r3∧isW r4∧isW r5∧(r0+18446744073709551616*r1+340282366920938463463374607431768211456*r2+6277101735386680763835789423207666416102355444464034512896*r3+115792089237316195423570985008687907853269984665640564039457584007913129639936*r4+2135987035920910082395021706169552114602704522356652769947041607822219725780640550022962086936576*r5)=(z2w0+18446744073709551616*z2w1+340282366920938463463374607431768211456*z2w2+6277101735386680763835789423207666416102355444464034512896*z2w3+115792089237316195423570985008687907853269984665640564039457584007913129639936*z2w4+2135987035920910082395021706169552114602704522356652769947041607822219725780640550022962086936576*z2w5)+340282366920938463463374607431768211456*p02∧ExtB g6 W6 W'∧W'.heap[g6]? = some (.cells (ints .u64 [r0,r1,r2,r3,r4,r5]) 237)) 168 #[.int .i64 2,.int .u64 m0_,.int .u64 n2_,.pointer (some ⟨g6,0,none⟩)] 31 rfl kj kj ((Qid g6 z2w0 z2w1 z2w2 z2w3 z2w4 z2w5 m0_ n2_ p02 hz2w0 hz2w1 hz2w2 hz2w3 hz2w4 hz2w5 hm0_ hn2_ ep02.symm (by rw [hS2]; omega) _ r6_6).mono fun e w' h=>⟨_,h.1,rfl,h.2⟩) fun v W7 h=>?_
  obtain ⟨rfl,z3w0,z3w1,z3w2,z3w3,z3w4,z3w5,hz3w0,hz3w1,hz3w2,hz3w3,hz3w4,hz3w5,hV3,q7,r6_7⟩:=h
  have hS3:(z3w0+18446744073709551616*z3w1+340282366920938463463374607431768211456*z3w2+6277101735386680763835789423207666416102355444464034512896*z3w3+115792089237316195423570985008687907853269984665640564039457584007913129639936*z3w4+2135987035920910082395021706169552114602704522356652769947041607822219725780640550022962086936576*z3w5)=1*p00+18446744073709551616*p01+340282366920938463463374607431768211456*p02:=by omega
  refine Qae <| hK25 _ _ <| sgA kj ?_
  show Code.rounds _ _ _ 1 _ _
  show Code.wp _ _ (Exit.then (Code.rounds _ _ _ 0) _) _ _
  refine sgB kj <| wp_seq_k fun K28 hK28=>cond_false kj <| wp_exit <| hK12 _ _ <| sgA kj ?_
  show Code.rounds _ _ _ 3 _ _
  show Code.wp _ _ (Exit.then (Code.rounds _ _ _ 2) _) _ _
  refine sgB kj <| sgT kj <| wp_seq_k fun K31 hK31=>wp_block <| sgC fun K32 hK32=>sg 1 kj <| Qaa (.int .u64 m1_) 19 rfl kj (QaH 221 _ _ .i64 .u64 ([m0_,m1_,m2_]) 1 3 129 m1_ rfl kj kj kj kj kj rfl (by decide) rfl) <| sg 2 kj <| sgN hK32 <| sgC fun K33 hK33=>?_
  have r3_7:=(ExtB.row q7 (ExtB.row q6 (ExtB.row q5 r3_4 (Qag r3_3 l6)) (Qag r3_3 l6)) (Qag r3_3 l6))
  refine Qaa (.agg (ints .u64 ([n0_,n1_,n2_]))) 20 rfl kj (Qao 221 _ g3 221 _ _ r3_7 rfl kj kj (isz (n:=3) kj kj)) <| sg 1 kj <| sgN hK33 <| wp_block <| wp_loop_rounds 4 ?_
  show Code.wp _ _ (Exit.then (Code.rounds _ _ _ 3) _) _ _
  refine sgB kj <| sgT kj <| wp_seq_k fun K36 hK36=>wp_block <| sgC fun K37 hK37=>sg 1 kj <| Qaa (.int .u64 n0_) 24 rfl kj (QaH 221 _ _ .i64 .u64 ([n0_,n1_,n2_]) 0 3 129 n0_ rfl kj kj kj kj kj rfl (by decide) rfl) <| sg 2 kj <| sgN hK37 <| Qac ?_
  refine sg 6 kj <| Qat (fun v W'=>v=.tuple #[]∧∃ r0 r1 r2 r3 r4 r5:Int,isW r0∧isW r1∧isW r2∧isW r3∧isW r4∧isW r5∧(r0+18446744073709551616*r1+340282366920938463463374607431768211456*r2+6277101735386680763835789423207666416102355444464034512896*r3+115792089237316195423570985008687907853269984665640564039457584007913129639936*r4+2135987035920910082395021706169552114602704522356652769947041607822219725780640550022962086936576*r5)=(z3w0+18446744073709551616*z3w1+340282366920938463463374607431768211456*z3w2+6277101735386680763835789423207666416102355444464034512896*z3w3+115792089237316195423570985008687907853269984665640564039457584007913129639936*z3w4+2135987035920910082395021706169552114602704522356652769947041607822219725780640550022962086936576*z3w5)+18446744073709551616*p10∧ExtB g6 W7 W'∧W'.heap[g6]? = some (.cells (ints .u64 [r0,r1,r2,r3,r4,r5]) 237)) 168 #[.int .i64 1,.int .u64 m1_,.int .u64 n0_,.pointer (some ⟨g6,0,none⟩)] 31 rfl kj kj ((Qie g6 z3w0 z3w1 z3w2 z3w3 z3w4 z3w5 m1_ n0_ p10 hz3w0 hz3w1 hz3w2 hz3w3 hz3w4 hz3w5 hm1_ hn0_ ep10.symm (by rw [hS3]; omega) _ r6_7).mono fun e w' h=>⟨_,h.1,rfl,h.2⟩) fun v W8 h=>?_
  obtain ⟨rfl,z4w0,z4w1,z4w2,z4w3,z4w4,z4w5,hz4w0,hz4w1,hz4w2,hz4w3,hz4w4,hz4w5,hV4,q8,r6_8⟩:=h
  have hS4:(z4w0+18446744073709551616*z4w1+340282366920938463463374607431768211456*z4w2+6277101735386680763835789423207666416102355444464034512896*z4w3+115792089237316195423570985008687907853269984665640564039457584007913129639936*z4w4+2135987035920910082395021706169552114602704522356652769947041607822219725780640550022962086936576*z4w5)=1*p00+18446744073709551616*p01+340282366920938463463374607431768211456*p02+18446744073709551616*p10:=by omega
  refine Qae <| hK36 _ _ <| sgA kj ?_
  show Code.rounds _ _ _ 3 _ _
  show Code.wp _ _ (Exit.then (Code.rounds _ _ _ 2) _) _ _
  refine sgB kj <| sgT kj <| wp_seq_k fun K40 hK40=>wp_block <| sgC fun K41 hK41=>sg 1 kj <| Qaa (.int .u64 n1_) 24 rfl kj (QaH 221 _ _ .i64 .u64 ([n0_,n1_,n2_]) 1 3 129 n1_ rfl kj kj kj kj kj rfl (by decide) rfl) <| sg 2 kj <| sgN hK41 <| Qac ?_
  refine sg 6 kj <| Qat (fun v W'=>v=.tuple #[]∧∃ r0 r1 r2 r3 r4 r5:Int,isW r0∧isW r1∧isW r2∧isW r3∧isW r4∧isW r5∧(r0+18446744073709551616*r1+340282366920938463463374607431768211456*r2+6277101735386680763835789423207666416102355444464034512896*r3+115792089237316195423570985008687907853269984665640564039457584007913129639936*r4+2135987035920910082395021706169552114602704522356652769947041607822219725780640550022962086936576*r5)=(z4w0+18446744073709551616*z4w1+340282366920938463463374607431768211456*z4w2+6277101735386680763835789423207666416102355444464034512896*z4w3+115792089237316195423570985008687907853269984665640564039457584007913129639936*z4w4+2135987035920910082395021706169552114602704522356652769947041607822219725780640550022962086936576*z4w5)+340282366920938463463374607431768211456*p11∧ExtB g6 W8 W'∧W'.heap[g6]? = some (.cells (ints .u64 [r0,r1,r2,r3,r4,r5]) 237)) 168 #[.int .i64 2,.int .u64 m1_,.int .u64 n1_,.pointer (some ⟨g6,0,none⟩)] 31 rfl kj kj ((Qid g6 z4w0 z4w1 z4w2 z4w3 z4w4 z4w5 m1_ n1_ p11 hz4w0 hz4w1 hz4w2 hz4w3 hz4w4 hz4w5 hm1_ hn1_ ep11.symm (by rw [hS4]; omega) _ r6_8).mono fun e w' h=>⟨_,h.1,rfl,h.2⟩) fun v W9 h=>?_
  obtain ⟨rfl,z5w0,z5w1,z5w2,z5w3,z5w4,z5w5,hz5w0,hz5w1,hz5w2,hz5w3,hz5w4,hz5w5,hV5,q9,r6_9⟩:=h
  have hS5:(z5w0+18446744073709551616*z5w1+340282366920938463463374607431768211456*z5w2+6277101735386680763835789423207666416102355444464034512896*z5w3+115792089237316195423570985008687907853269984665640564039457584007913129639936*z5w4+2135987035920910082395021706169552114602704522356652769947041607822219725780640550022962086936576*z5w5)=1*p00+18446744073709551616*p01+340282366920938463463374607431768211456*p02+18446744073709551616*p10+340282366920938463463374607431768211456*p11:=by omega
  refine Qae <| hK40 _ _ <| sgA kj ?_
  show Code.rounds _ _ _ 2 _ _
  show Code.wp _ _ (Exit.then (Code.rounds _ _ _ 1) _) _ _
  refine sgB kj <| sgT kj <| wp_seq_k fun K44 hK44=>wp_block <| sgC fun K45 hK45=>sg 1 kj <| Qaa (.int .u64 n2_) 24 rfl kj (QaH 221 _ _ .i64 .u64 ([n0_,n1_,n2_]) 2 3 129 n2_ rfl kj kj kj kj kj rfl (by decide) rfl) <| sg 2 kj <| sgN hK45 <| Qac ?_
  refine sg 6 kj <| Qat (fun v W'=>v=.tuple #[]∧∃ r0 r1 r2 r3 r4 r5:Int,isW r0∧isW r1∧isW r2∧isW r3∧isW r4∧isW r5∧(r0+18446744073709551616*r1+340282366920938463463374607431768211456*r2+6277101735386680763835789423207666416102355444464034512896*r3+115792089237316195423570985008687907853269984665640564039457584007913129639936*r4+2135987035920910082395021706169552114602704522356652769947041607822219725780640550022962086936576*r5)=(z5w0+18446744073709551616*z5w1+340282366920938463463374607431768211456*z5w2+6277101735386680763835789423207666416102355444464034512896*z5w3+115792089237316195423570985008687907853269984665640564039457584007913129639936*z5w4+2135987035920910082395021706169552114602704522356652769947041607822219725780640550022962086936576*z5w5)+6277101735386680763835789423207666416102355444464034512896*p12∧ExtB g6 W9 W'∧W'.heap[g6]? = some (.cells (ints .u64 [r0,r1,r2,r3,r4,r5]) 237)) 168 #[.int .i64 3,.int .u64 m1_,.int .u64 n2_,.pointer (some ⟨g6,0,none⟩)] 31 rfl kj kj ((Qj1 g6 z5w0 z5w1 z5w2 z5w3 z5w4 z5w5 m1_ n2_ p12 hz5w0 hz5w1 hz5w2 hz5w3 hz5w4 hz5w5 hm1_ hn2_ ep12.symm (by rw [hS5]; omega) _ r6_9).mono fun e w' h=>⟨_,h.1,rfl,h.2⟩) fun v W10 h=>?_
  obtain ⟨rfl,z6w0,z6w1,z6w2,z6w3,z6w4,z6w5,hz6w0,hz6w1,hz6w2,hz6w3,hz6w4,hz6w5,hV6,q10,r6_10⟩:=h
  have hS6:(z6w0+18446744073709551616*z6w1+340282366920938463463374607431768211456*z6w2+6277101735386680763835789423207666416102355444464034512896*z6w3+115792089237316195423570985008687907853269984665640564039457584007913129639936*z6w4+2135987035920910082395021706169552114602704522356652769947041607822219725780640550022962086936576*z6w5)=1*p00+18446744073709551616*p01+340282366920938463463374607431768211456*p02+18446744073709551616*p10+340282366920938463463374607431768211456*p11+6277101735386680763835789423207666416102355444464034512896*p12:=by omega
  refine Qae <| hK44 _ _ <| sgA kj ?_
  show Code.rounds _ _ _ 1 _ _
  show Code.wp _ _ (Exit.then (Code.rounds _ _ _ 0) _) _ _
  refine sgB kj <| wp_seq_k fun K47 hK47=>cond_false kj <| wp_exit <| hK31 _ _ <| sgA kj ?_
  show Code.rounds _ _ _ 2 _ _
  show Code.wp _ _ (Exit.then (Code.rounds _ _ _ 1) _) _ _
  refine sgB kj <| sgT kj <| wp_seq_k fun K50 hK50=>wp_block <| sgC fun K51 hK51=>sg 1 kj <| Qaa (.int .u64 m2_) 19 rfl kj (QaH 221 _ _ .i64 .u64 ([m0_,m1_,m2_]) 2 3 129 m2_ rfl kj kj kj kj kj rfl (by decide) rfl) <| sg 2 kj <| sgN hK51 <| sgC fun K52 hK52=>?_
  refine Qaa (.agg (ints .u64 ([n0_,n1_,n2_]))) 20 rfl kj (Qao 221 _ g3 221 _ _ (ExtB.row q10 (ExtB.row q9 (ExtB.row q8 r3_7 (Qag r3_3 l6)) (Qag r3_3 l6)) (Qag r3_3 l6)) rfl kj kj (isz (n:=3) kj kj)) <| sg 1 kj <| sgN hK52 <| wp_block <| wp_loop_rounds 4 ?_
  show Code.wp _ _ (Exit.then (Code.rounds _ _ _ 3) _) _ _
  refine sgB kj <| sgT kj <| wp_seq_k fun K55 hK55=>wp_block <| sgC fun K56 hK56=>sg 1 kj <| Qaa (.int .u64 n0_) 24 rfl kj (QaH 221 _ _ .i64 .u64 ([n0_,n1_,n2_]) 0 3 129 n0_ rfl kj kj kj kj kj rfl (by decide) rfl) <| sg 2 kj <| sgN hK56 <| Qac ?_
  refine sg 6 kj <| Qat (fun v W'=>v=.tuple #[]∧∃ r0 r1 r2 r3 r4 r5:Int,isW r0∧isW r1∧isW r2∧isW r3∧isW r4∧isW r5∧(r0+18446744073709551616*r1+340282366920938463463374607431768211456*r2+6277101735386680763835789423207666416102355444464034512896*r3+115792089237316195423570985008687907853269984665640564039457584007913129639936*r4+2135987035920910082395021706169552114602704522356652769947041607822219725780640550022962086936576*r5)=(z6w0+18446744073709551616*z6w1+340282366920938463463374607431768211456*z6w2+6277101735386680763835789423207666416102355444464034512896*z6w3+115792089237316195423570985008687907853269984665640564039457584007913129639936*z6w4+2135987035920910082395021706169552114602704522356652769947041607822219725780640550022962086936576*z6w5)+340282366920938463463374607431768211456*p20∧ExtB g6 W10 W'∧W'.heap[g6]? = some (.cells (ints .u64 [r0,r1,r2,r3,r4,r5]) 237)) 168 #[.int .i64 2,.int .u64 m2_,.int .u64 n0_,.pointer (some ⟨g6,0,none⟩)] 31 rfl kj kj ((Qid g6 z6w0 z6w1 z6w2 z6w3 z6w4 z6w5 m2_ n0_ p20 hz6w0 hz6w1 hz6w2 hz6w3 hz6w4 hz6w5 hm2_ hn0_ ep20.symm (by rw [hS6]; omega) _ r6_10).mono fun e w' h=>⟨_,h.1,rfl,h.2⟩) fun v W11 h=>?_
  obtain ⟨rfl,z7w0,z7w1,z7w2,z7w3,z7w4,z7w5,hz7w0,hz7w1,hz7w2,hz7w3,hz7w4,hz7w5,hV7,q11,r6_11⟩:=h
  have hS7:(z7w0+18446744073709551616*z7w1+340282366920938463463374607431768211456*z7w2+6277101735386680763835789423207666416102355444464034512896*z7w3+115792089237316195423570985008687907853269984665640564039457584007913129639936*z7w4+2135987035920910082395021706169552114602704522356652769947041607822219725780640550022962086936576*z7w5)=1*p00+18446744073709551616*p01+340282366920938463463374607431768211456*p02+18446744073709551616*p10+340282366920938463463374607431768211456*p11+6277101735386680763835789423207666416102355444464034512896*p12+340282366920938463463374607431768211456*p20:=by omega
  refine Qae <| hK55 _ _ <| sgA kj ?_
  show Code.rounds _ _ _ 3 _ _
  show Code.wp _ _ (Exit.then (Code.rounds _ _ _ 2) _) _ _
  refine sgB kj <| sgT kj <| wp_seq_k fun K59 hK59=>wp_block <| sgC fun K60 hK60=>sg 1 kj <| Qaa (.int .u64 n1_) 24 rfl kj (QaH 221 _ _ .i64 .u64 ([n0_,n1_,n2_]) 1 3 129 n1_ rfl kj kj kj kj kj rfl (by decide) rfl) <| sg 2 kj <| sgN hK60 <| Qac ?_
  refine sg 6 kj <| Qat (fun v W'=>v=.tuple #[]∧∃ r0 r1 r2 r3 r4 r5:Int,isW r0∧isW r1∧isW r2∧isW r3∧isW r4∧isW r5∧(r0+18446744073709551616*r1+340282366920938463463374607431768211456*r2+6277101735386680763835789423207666416102355444464034512896*r3+115792089237316195423570985008687907853269984665640564039457584007913129639936*r4+2135987035920910082395021706169552114602704522356652769947041607822219725780640550022962086936576*r5)=(z7w0+18446744073709551616*z7w1+340282366920938463463374607431768211456*z7w2+6277101735386680763835789423207666416102355444464034512896*z7w3+115792089237316195423570985008687907853269984665640564039457584007913129639936*z7w4+2135987035920910082395021706169552114602704522356652769947041607822219725780640550022962086936576*z7w5)+6277101735386680763835789423207666416102355444464034512896*p21∧ExtB g6 W11 W'∧W'.heap[g6]? = some (.cells (ints .u64 [r0,r1,r2,r3,r4,r5]) 237)) 168 #[.int .i64 3,.int .u64 m2_,.int .u64 n1_,.pointer (some ⟨g6,0,none⟩)] 31 rfl kj kj ((Qj1 g6 z7w0 z7w1 z7w2 z7w3 z7w4 z7w5 m2_ n1_ p21 hz7w0 hz7w1 hz7w2 hz7w3 hz7w4 hz7w5 hm2_ hn1_ ep21.symm (by rw [hS7]; omega) _ r6_11).mono fun e w' h=>⟨_,h.1,rfl,h.2⟩) fun v W12 h=>?_
  obtain ⟨rfl,z8w0,z8w1,z8w2,z8w3,z8w4,z8w5,hz8w0,hz8w1,hz8w2,hz8w3,hz8w4,hz8w5,hV8,q12,r6_12⟩:=h
  have hS8:(z8w0+18446744073709551616*z8w1+340282366920938463463374607431768211456*z8w2+6277101735386680763835789423207666416102355444464034512896*z8w3+115792089237316195423570985008687907853269984665640564039457584007913129639936*z8w4+2135987035920910082395021706169552114602704522356652769947041607822219725780640550022962086936576*z8w5)=1*p00+18446744073709551616*p01+340282366920938463463374607431768211456*p02+18446744073709551616*p10+340282366920938463463374607431768211456*p11+6277101735386680763835789423207666416102355444464034512896*p12+340282366920938463463374607431768211456*p20+6277101735386680763835789423207666416102355444464034512896*p21:=by omega
  refine Qae <| hK59 _ _ <| sgA kj ?_
  show Code.rounds _ _ _ 2 _ _
  show Code.wp _ _ (Exit.then (Code.rounds _ _ _ 1) _) _ _
  refine sgB kj <| sgT kj <| wp_seq_k fun K63 hK63=>wp_block <| sgC fun K64 hK64=>sg 1 kj <| Qaa (.int .u64 n2_) 24 rfl kj (QaH 221 _ _ .i64 .u64 ([n0_,n1_,n2_]) 2 3 129 n2_ rfl kj kj kj kj kj rfl (by decide) rfl) <| sg 2 kj <| sgN hK64 <| Qac ?_
  refine sg 6 kj <| Qat (fun v W'=>v=.tuple #[]∧∃ r0 r1 r2 r3 r4 r5:Int,isW r0∧isW r1∧isW r2∧isW r3∧isW r4∧isW r5∧(r0+18446744073709551616*r1+340282366920938463463374607431768211456*r2+6277101735386680763835789423207666416102355444464034512896*r3+115792089237316195423570985008687907853269984665640564039457584007913129639936*r4+2135987035920910082395021706169552114602704522356652769947041607822219725780640550022962086936576*r5)=(z8w0+18446744073709551616*z8w1+340282366920938463463374607431768211456*z8w2+6277101735386680763835789423207666416102355444464034512896*z8w3+115792089237316195423570985008687907853269984665640564039457584007913129639936*z8w4+2135987035920910082395021706169552114602704522356652769947041607822219725780640550022962086936576*z8w5)+115792089237316195423570985008687907853269984665640564039457584007913129639936*p22∧ExtB g6 W12 W'∧W'.heap[g6]? = some (.cells (ints .u64 [r0,r1,r2,r3,r4,r5]) 237)) 168 #[.int .i64 4,.int .u64 m2_,.int .u64 n2_,.pointer (some ⟨g6,0,none⟩)] 31 rfl kj kj ((QkM g6 z8w0 z8w1 z8w2 z8w3 z8w4 z8w5 m2_ n2_ p22 hz8w0 hz8w1 hz8w2 hz8w3 hz8w4 hz8w5 hm2_ hn2_ ep22.symm (by rw [hS8]; omega) _ r6_12).mono fun e w' h=>⟨_,h.1,rfl,h.2⟩) fun v W13 h=>?_
  obtain ⟨rfl,z9w0,z9w1,z9w2,z9w3,z9w4,z9w5,hz9w0,hz9w1,hz9w2,hz9w3,hz9w4,hz9w5,hV9,q13,r6_13⟩:=h
  have x13:=ExtB.up (ExtB.up (ExtB.up (ExtB.up (ExtB.up (ExtB.up (ExtB.up (ExtB.up (ExtB.up (Ext.tr x3 e4) q5 b6) q6 b6) q7 b6) q8 b6) q9 b6) q10 b6) q11 b6) q12 b6) q13 b6
  have hS9:(z9w0+18446744073709551616*z9w1+340282366920938463463374607431768211456*z9w2+6277101735386680763835789423207666416102355444464034512896*z9w3+115792089237316195423570985008687907853269984665640564039457584007913129639936*z9w4+2135987035920910082395021706169552114602704522356652769947041607822219725780640550022962086936576*z9w5)=1*p00+18446744073709551616*p01+340282366920938463463374607431768211456*p02+18446744073709551616*p10+340282366920938463463374607431768211456*p11+6277101735386680763835789423207666416102355444464034512896*p12+340282366920938463463374607431768211456*p20+6277101735386680763835789423207666416102355444464034512896*p21+115792089237316195423570985008687907853269984665640564039457584007913129639936*p22:=by omega
  refine Qae <| hK63 _ _ <| sgA kj ?_
  show Code.rounds _ _ _ 1 _ _
  show Code.wp _ _ (Exit.then (Code.rounds _ _ _ 0) _) _ _
  refine sgB kj <| wp_seq_k fun K66 hK66=>cond_false kj <| wp_exit <| hK50 _ _ <| sgA kj ?_
  show Code.rounds _ _ _ 1 _ _
  show Code.wp _ _ (Exit.then (Code.rounds _ _ _ 0) _) _ _
  refine sgB kj <| wp_seq_k fun K68 hK68=>cond_false kj <| wp_exit <| hK8 _ _ <| sgC fun K69 hK69=>?_
  obtain ⟨e0_,ee0⟩:∃ z,z=z9w2/4+z9w3%4*4611686018427387904:=⟨_,rfl⟩
  obtain ⟨e1_,ee1⟩:∃ z,z=z9w3/4:=⟨_,rfl⟩
  have he0:isW e0_:=by obtain ⟨a1,a2⟩:=id hz9w2; obtain ⟨a3,a4⟩:=id hz9w3; exact ⟨by omega,by omega⟩
  have he1:isW e1_:=by obtain ⟨a3,a4⟩:=id hz9w3; exact ⟨by omega,by omega⟩
  refine sg 1 kj <| Qaa (.int .u64 z9w2) 35 rfl kj (Qah 129 _ g6 2 237 _ (.int .u64 z9w2) _ r6_13 rfl kj kj kj) <| Qaa (.int .u64 (z9w2/4)) 36 rfl kj (QaP .shr _ _ _ _ .u64 .u64 _ _ _ rfl kj kj (Qdk _ _ _ _ _ _ (by decide) (shr2 _ hz9w2))) <| sg 1 kj <| Qaa (.int .u64 z9w3) 38 rfl kj (Qah 129 _ g6 3 237 _ (.int .u64 z9w3) _ r6_13 rfl kj kj kj) <| Qaa (.int .u64 (z9w3%4*4611686018427387904)) 39 rfl kj (QaP .shl _ _ _ _ .u64 .u64 _ _ _ rfl kj kj (Qcv _ _ _ _ _ _ (by decide) (Qle _ hz9w3))) <| Qaa (.int .u64 (e0_)) 40 rfl kj (Qad (u:=.int .u64 (bits .or .u64 ((z9w2/4)) ((z9w3%4*4611686018427387904)))) kj (congrArg (Value.int .u64) ((or62 _ _ hz9w2 hz9w3).trans ee0.symm))) <| sg 1 kj <| Qaa (.int .u64 z9w3) 42 rfl kj (Qah 129 _ g6 3 237 _ (.int .u64 z9w3) _ r6_13 rfl kj kj kj) <| Qaa (.int .u64 (e1_)) 43 rfl kj (QaP .shr _ _ _ _ .u64 .u64 _ _ _ rfl kj kj (Qdk _ _ _ _ _ _ (by decide) ((shr2 _ hz9w3).trans ee1.symm))) ?_
  refine sg 1 kj <| Qas (ints .u64 ([0,0])) 240 11 rfl kj kj fun g70 W14 l70 e14 r70_14=>Qal g70 _ (ints .u64 ([(e0_),(e1_)])) 240 r70_14 rfl kj (Qav 240 _ _ g70 240 _ _ r70_14 rfl kj kj (isz (n:=2) kj kj) (eqsz (n:=2) kj kj) (QaC _ _)) fun W15 p15 r70_15=>sgN hK69 <| sgC fun K71 hK71=>sg 1 kj ?_
  have r6_15:=(Puts.row p15 (Qab r6_13 e14) (Qag r6_13 l70))
  refine Qaa (.int .u64 z9w0) 46 rfl kj (Qah 129 _ g6 0 237 _ (.int .u64 z9w0) _ r6_15 rfl kj kj kj) <| sg 1 kj <| Qaa (.int .u64 z9w1) 48 rfl kj (Qah 129 _ g6 1 237 _ (.int .u64 z9w1) _ r6_15 rfl kj kj kj) <| sg 1 kj <| Qaa (.int .u64 z9w2) 50 rfl kj (Qah 129 _ g6 2 237 _ (.int .u64 z9w2) _ r6_15 rfl kj kj kj) <| Qaa (.int .u64 (z9w2%4)) 51 rfl kj (Qad (u:=.int .u64 (bits .and .u64 (z9w2) (3))) kj (congrArg (Value.int .u64) (and3 _ hz9w2))) <| sg 1 kj <| Qal g6 _ (ints .u64 ([z9w0,z9w1,(z9w2%4),0,0,0])) 237 r6_15 rfl kj (Qav 237 _ _ g6 237 _ _ r6_15 rfl kj kj (isz (n:=6) kj kj) (eqsz (n:=6) kj kj) (QaC _ _)) fun W16 p16 r6_16=>?_
  obtain ⟨aq0,bq0⟩:=id hz9w0
  obtain ⟨aq1,bq1⟩:=id hz9w1
  obtain ⟨aq2,bq2⟩:=id hz9w2
  obtain ⟨aq3,bq3⟩:=id hz9w3
  obtain ⟨aq4,bq4⟩:=id hz9w4
  obtain ⟨aq5,bq5⟩:=id hz9w5
  obtain ⟨ae0,be0⟩:=id he0
  obtain ⟨ae1,be1⟩:=id he1
  refine sgN hK71 <| wp_seq_k fun K72 hK72=>sgC fun K73 hK73=>Qaa (.agg (ints .u64 ([(e0_),(e1_)]))) 53 rfl kj (Qao 240 _ g70 240 _ _ (Puts.row p16 r70_15 (QaA r6_13 l70)) rfl kj kj (isz (n:=2) kj kj)) <| sg 1 kj <| sgN hK73 <| wp_block <| wp_loop_rounds 3 ?_
  show Code.wp _ _ (Exit.then (Code.rounds _ _ _ 2) _) _ _
  refine sgB kj <| sgT kj <| wp_seq_k fun K76 hK76=>wp_block <| sgC fun K77 hK77=>sg 1 kj <| Qaa (.int .u64 (e0_)) 57 rfl kj (QaH 240 _ _ .i64 .u64 ([(e0_),(e1_)]) 0 2 129 (e0_) rfl kj kj kj kj kj rfl (by decide) rfl) <| sg 2 kj <| sgN hK77 <| Qac ?_
  refine sg 3 kj <| Qat (fun v W'=>v=.tuple #[]∧∃ r0 r1 r2 r3 r4 r5:Int,isW r0∧isW r1∧isW r2∧isW r3∧isW r4∧isW r5∧(r0+18446744073709551616*r1+340282366920938463463374607431768211456*r2+6277101735386680763835789423207666416102355444464034512896*r3+115792089237316195423570985008687907853269984665640564039457584007913129639936*r4+2135987035920910082395021706169552114602704522356652769947041607822219725780640550022962086936576*r5)=(z9w0+18446744073709551616*z9w1+340282366920938463463374607431768211456*(z9w2%4)+6277101735386680763835789423207666416102355444464034512896*0+115792089237316195423570985008687907853269984665640564039457584007913129639936*0+2135987035920910082395021706169552114602704522356652769947041607822219725780640550022962086936576*0)+1*(5*e0_)∧ExtB g6 W16 W'∧W'.heap[g6]? = some (.cells (ints .u64 [r0,r1,r2,r3,r4,r5]) 237)) 168 #[.int .i64 0,.int .u64 (e0_),.int .u64 5,.pointer (some ⟨g6,0,none⟩)] 61 rfl kj kj ((Qj2 g6 z9w0 z9w1 (z9w2%4) 0 0 0 e0_ 5 (5*e0_) hz9w0 hz9w1 ⟨by omega,by omega⟩ Qbu Qbu Qbu he0 ⟨by decide,by decide⟩ (by omega) (by omega) _ r6_16).mono fun e w' h=>⟨_,h.1,rfl,h.2⟩) fun v W17 h=>?_
  obtain ⟨rfl,z10w0,z10w1,z10w2,z10w3,z10w4,z10w5,hz10w0,hz10w1,hz10w2,hz10w3,hz10w4,hz10w5,hV10,q17,r6_17⟩:=h
  have hS10:(z10w0+18446744073709551616*z10w1+340282366920938463463374607431768211456*z10w2+6277101735386680763835789423207666416102355444464034512896*z10w3+115792089237316195423570985008687907853269984665640564039457584007913129639936*z10w4+2135987035920910082395021706169552114602704522356652769947041607822219725780640550022962086936576*z10w5)=(z9w0+18446744073709551616*z9w1+340282366920938463463374607431768211456*(z9w2%4))+1*(5*e0_):=by omega
  refine Qae <| hK76 _ _ <| sgA kj ?_
  show Code.rounds _ _ _ 2 _ _
  show Code.wp _ _ (Exit.then (Code.rounds _ _ _ 1) _) _ _
  refine sgB kj <| sgT kj <| wp_seq_k fun K80 hK80=>wp_block <| sgC fun K81 hK81=>sg 1 kj <| Qaa (.int .u64 (e1_)) 57 rfl kj (QaH 240 _ _ .i64 .u64 ([(e0_),(e1_)]) 1 2 129 (e1_) rfl kj kj kj kj kj rfl (by decide) rfl) <| sg 2 kj <| sgN hK81 <| Qac ?_
  refine sg 3 kj <| Qat (fun v W'=>v=.tuple #[]∧∃ r0 r1 r2 r3 r4 r5:Int,isW r0∧isW r1∧isW r2∧isW r3∧isW r4∧isW r5∧(r0+18446744073709551616*r1+340282366920938463463374607431768211456*r2+6277101735386680763835789423207666416102355444464034512896*r3+115792089237316195423570985008687907853269984665640564039457584007913129639936*r4+2135987035920910082395021706169552114602704522356652769947041607822219725780640550022962086936576*r5)=(z10w0+18446744073709551616*z10w1+340282366920938463463374607431768211456*z10w2+6277101735386680763835789423207666416102355444464034512896*z10w3+115792089237316195423570985008687907853269984665640564039457584007913129639936*z10w4+2135987035920910082395021706169552114602704522356652769947041607822219725780640550022962086936576*z10w5)+18446744073709551616*(5*e1_)∧ExtB g6 W17 W'∧W'.heap[g6]? = some (.cells (ints .u64 [r0,r1,r2,r3,r4,r5]) 237)) 168 #[.int .i64 1,.int .u64 (e1_),.int .u64 5,.pointer (some ⟨g6,0,none⟩)] 61 rfl kj kj ((Qie g6 z10w0 z10w1 z10w2 z10w3 z10w4 z10w5 e1_ 5 (5*e1_) hz10w0 hz10w1 hz10w2 hz10w3 hz10w4 hz10w5 he1 ⟨by decide,by decide⟩ (by omega) (by rw [hS10]; omega) _ r6_17).mono fun e w' h=>⟨_,h.1,rfl,h.2⟩) fun v W18 h=>?_
  obtain ⟨rfl,z11w0,z11w1,z11w2,z11w3,z11w4,z11w5,hz11w0,hz11w1,hz11w2,hz11w3,hz11w4,hz11w5,hV11,q18,r6_18⟩:=h
  have hS11:(z11w0+18446744073709551616*z11w1+340282366920938463463374607431768211456*z11w2+6277101735386680763835789423207666416102355444464034512896*z11w3+115792089237316195423570985008687907853269984665640564039457584007913129639936*z11w4+2135987035920910082395021706169552114602704522356652769947041607822219725780640550022962086936576*z11w5)=(z9w0+18446744073709551616*z9w1+340282366920938463463374607431768211456*(z9w2%4))+1*(5*e0_)+18446744073709551616*(5*e1_):=by omega
  refine Qae <| hK80 _ _ <| sgA kj ?_
  show Code.rounds _ _ _ 1 _ _
  show Code.wp _ _ (Exit.then (Code.rounds _ _ _ 0) _) _ _
  refine sgB kj <| wp_seq_k fun K83 hK83=>cond_false kj <| wp_exit <| hK72 _ _ <| sgC fun K84 hK84=>sg 1 kj <| Qaa (.int .u64 z11w0) 64 rfl kj (Qah 129 _ g6 0 237 _ (.int .u64 z11w0) _ r6_18 rfl kj kj kj) <| sg 1 kj <| Qaa (.int .u64 z11w1) 66 rfl kj (Qah 129 _ g6 1 237 _ (.int .u64 z11w1) _ r6_18 rfl kj kj kj) ?_
  refine sg 1 kj <| Qaa (.int .u64 z11w2) 68 rfl kj (Qah 129 _ g6 2 237 _ (.int .u64 z11w2) _ r6_18 rfl kj kj kj) <| sg 1 kj ?_
  have r4_13:=(ExtB.row q13 (ExtB.row q12 (ExtB.row q11 (ExtB.row q10 (ExtB.row q9 (ExtB.row q8 (ExtB.row q7 (ExtB.row q6 (ExtB.row q5 (Qab r4_3 e4) (Qag r4_3 l6)) (Qag r4_3 l6)) (Qag r4_3 l6)) (Qag r4_3 l6)) (Qag r4_3 l6)) (Qag r4_3 l6)) (Qag r4_3 l6)) (Qag r4_3 l6)) (Qag r4_3 l6))
  have r4_18:=(ExtB.row q18 (ExtB.row q17 (Puts.row p16 (Puts.row p15 (Qab r4_13 e14) (Qag r4_13 l70)) (Qag r4_3 l6)) (Qag r4_3 l6)) (Qag r4_3 l6))
  refine Qal g4 _ (ints .u64 ([z11w0,z11w1,z11w2])) 221 r4_18 rfl kj (Qav 221 _ _ g4 221 _ _ r4_18 rfl kj kj (isz (n:=3) kj kj) (eqsz (n:=3) kj kj) (QaC _ _)) fun W19 p19 r4_19=>sgN hK84 <| wp_ret ?_
  repeat (first | with_reducible refine goR1 ?_ | with_reducible refine goR2 ?_)
  exact (show bodyPost _ _ _ .ret _ _ from ret1 (.agg (ints .u64 ([z11w0,z11w1,z11w2]))) rfl (Qbq g4 221 _ r4_19 kj kj (isz (n:=3) kj kj)) ⟨by rw [Qjz (v:=mulV (va*vb)) hz11w0 hz11w1 hz11w2 (Qkf hz9w0 hz9w1 hz9w2 hz9w3 hz9w4 hz9w5 hz11w0 hz11w1 hz11w2 hz11w3 hz11w4 hz11w5 (hS9.trans hT) (by rw [←hT]; exact hTl) ee0 ee1 (by rw [hS11]; omega))],(Puts.ext p19 (ExtB.up (ExtB.up (Puts.ext p16 (Puts.ext p15 (Ext.tr x13 e14) (qT x13.size l70)) b6) q17 b6) q18 b6) (qT x2.size l4))⟩)
theorem Qia (a b:Int) (ha:0≤a) (hb:0≤b) (hal:a<5444517870735015415413993718908291383296) (hbl:b<21267647932558653966460912964485513216) (w:World) :
    Calls Tryd.prog 165 #[.agg (ints .u64 (nw3 a)),.agg (ints .u64 (nw3 b))] w (Ret w (.agg (ints .u64 (nw3 (mulV (a*b)))))) :=
  mulW _ _ _ _ _ _ a b (Qcs _) (Qcs _) (Qcs _) (Qcs _) (Qcs _) (Qcs _) (Qfq a ha (by omega)) (Qfq b hb (by omega)) hal hbl w
end Go.Proofs.YtoiendjhplbjjaaDoor.Ae
end
section
namespace Go.Proofs.YtoiendjhplbjjaaDoor.Ae
open Go Go.RowKit
open Rely Auto Own Sha
open Sha Cha
theorem run_storeQ {P : Program} {ρ:Operand→Value} {o:Oper} {w:World} (ty:TypeId) (x y:Operand) (g off:Nat) (t:TypeId) (pre post:List (Array Value)) (u v:Value) (hg:w.heap[g]? = some (.cells (cat (pre++([#[u]]++post))) t))
    (ho:o.op=.store ty x y) (hx:ρ x=.pointer (some ⟨g,off,none⟩)) (hy:ρ y=v) (hi:(P.info? ty).map (·.size)=some 1) (hp:(cat pre).size=off) (h1:v.oneCell'=true) (hcs:v.cells=#[v]) :
    (execOp ρ o).run P w=.ok .skip (w.setRow g (cat (pre++([#[v]]++post)))):=by
  subst hp
  have hs:Nat.blt (cat pre).size (cat (pre++([#[u]]++post))).size=true:=by
    have:(cat pre).size<(cat (pre++([#[u]]++post))).size:=by
      rw [QaE,QaE,qS,qS]
      have e1:(cat [#[u]]).size=1:=rfl
      omega
    simpa using this
  have e:(cat (pre++([#[u]]++post))).setIfInBounds (cat pre).size v=cat (pre++([#[v]]++post)):=by
    rw [QaE,QaE,QaE,QaE]
    have e1:∀ z,cat [#[z]]=#[z]:=fun z=>rfl
    rw [e1,e1,Array.setIfInBounds_append_right (qR _),Nat.sub_self,Array.setIfInBounds_append_left (by simp)]
    rfl
  rw [←e]
  exact Qb9 ty x y g _ t _ v hg ho hx hy hi hs h1 hcs
theorem QjT {k : IntKind} {T:TypeId} {g n0 n l h:Nat} {xs:List Int} (pre post:List (Array Value)) {W:World} (hp:(cat pre).size=n0) (hn:xs.length=n) (r:W.heap[g]? = some (.cells (cat (pre++([ints k xs]++post))) T)) (h1:l≤h) (h2:h≤n) (h3:n≤maxLen) :
    RdK k W.heap.size ((xs.drop l).take (h-l)) (.slice (some ⟨g,n0+l,none⟩) (h-l) (n-l)) W :=
  Qfo (n0+l) (by rw [List.length_take,List.length_drop]; omega) r (fun i hi=>by
    rw [Qd0 _ _ _ hi,QdN]
    exact Qja pre post xs n0 (l+i) _ hp (by omega) (by omega)) (Qa0 r) (by omega) (by omega)
theorem QgE (v : Int):mulV v%PP=v%PP:=by
  unfold mulV PP
  omega
theorem Qkg (v : Int) (h0:0≤v) (h:v<115792089237316195423570985008687907853269984665640564039457584007913129639936):0≤mulV v∧mulV v<2041694201525630780780247644590609268736:=by
  unfold mulV
  omega
theorem QfP {c : List Int} (hb:Qai c) (hl:c.length≤16):0≤lev (c++[1])∧lev (c++[1])≤680564733841876926926749214863536422912:=by
  have h1:=Qd7 hb
  have h0:=Qbh hb
  rw [Qde]
  have h2:p256 16=p256 c.length*p256 (16-c.length):=by rw [←Qc3]; congr 1; omega
  have h3:=QbQ (16-c.length)
  have h4:p256 c.length*1≤p256 c.length*p256 (16-c.length):=Int.mul_le_mul_of_nonneg_left (by omega) (Int.le_of_lt (QbQ _))
  have h5:=QbQ c.length
  rw [p16] at h2
  omega
theorem QiB (pl : List Int) (m:Nat) (h:m<pl.length):((pl.set m 1).drop 0).take (m+1-0)=pl.take m++[1]:=by
  show (pl.set m 1).take (m+1)=_
  rw [QcO _ m (by rw [List.length_set]; exact h)]
  congr 1
  · rw [List.take_set_of_le (qR _)]
  · simp [nth,h]
def Qez (r S:Int) (c:List Int):Int:=mulV ((S+lev (c++[1]))*r)
theorem Qgx {r S:Int} {c:List Int} (hS:0≤S∧S<2041694201525630780780247644590609268736) (hr:0≤r∧r<21267647932558653966460912964485513216) (hb:Qai c) (hl:c.length≤16):0≤Qez r S c∧Qez r S c<2041694201525630780780247644590609268736:=by
  obtain ⟨h0,h1⟩:=QfP hb hl
  exact Qkg _ (Int.mul_nonneg (by omega) hr.1) (QfN (by omega) hr.1 (by omega) hr.2)
set_option maxRecDepth 100000 in
theorem Qk3 (g : Nat) (r s S:Int) (pl:List Int) (m:Nat) (w:World) (hr:0≤r∧r<21267647932558653966460912964485513216) (hS:0≤S∧S<2041694201525630780780247644590609268736) (hpl:pl.length=17) (hpb:Qai pl) (hm:m≤16) (hg:w.heap[g]? = some (.cells (cat [ints .u64 (nw3 r),ints .u64 (nw3 s),ints .u64 (nw3 (S)),ints .u8 (pl),#[.int .i64 ((m:Nat):Int)]]) 226)) :
    Calls Tryd.prog 158 #[.pointer (some ⟨g,0,none⟩)] w (fun e W=>e=.returned (.tuple #[])∧ExtB g w W∧W.heap[g]? = some (.cells (cat [ints .u64 (nw3 r),ints .u64 (nw3 s),ints .u64 (nw3 (Qez r S (pl.take m))),ints .u8 (pl.set m 1),#[.int .i64 0]]) 226)):=by
  have hpl1:(pl.set m 1).length=17:=by rw [List.length_set,hpl]
  have hpb1:Qai (pl.set m 1):=QaY hpb _ (by decide) (by decide)
  have hset:=QiB pl m (by omega)
  obtain ⟨hc0,hc1⟩:0≤lev (((pl.set m 1).drop 0).take (m+1-0))∧lev (((pl.set m 1).drop 0).take (m+1-0))≤680564733841876926926749214863536422912:=by rw [hset]; exact QfP (Qa4 hpb m) (by rw [List.length_take]; omega)
  refine enter 36 [(0,.pointer (some ⟨g,0,none⟩))] Tryd.func158 rfl rfl kj rfl <| wp_seq_k fun K2 hK2=>QaX 8 [⟨none,[(0,none)]⟩,⟨none,[(0,none)]⟩,⟨none,[(3,some 1)]⟩,⟨none,[(4,some 2)]⟩,⟨none,[(5,some 3)]⟩,⟨none,[(2,some 0)]⟩,⟨none,[(7,some 5)]⟩,⟨none,[(8,some 6),(6,some 4)]⟩] kj kj fun F hF=>Qam (.pointer (some ⟨g,0,none⟩)) kj kj (fun W=>by kernel_rfl) <| Qam (.pointer (some ⟨g,0,none⟩)) kj kj (fun W=>by kernel_rfl) <| Qam (.pointer (some ⟨g,0,none⟩)) kj kj (fun W=>by kernel_rfl) <| Qam (.pointer (some ⟨g,26,none⟩)) kj kj (fun W=>by kernel_rfl) <| QaN (.int .i64 ((m:Nat):Int)) kj kj (fun W hR=>(Qah 3 _ g 26 226 _ (.int .i64 ((m:Nat):Int)) _ (Qab (Qab hg (Qak _)) hR) rfl kj (QaQ [ints .u64 (nw3 r),ints .u64 (nw3 s),ints .u64 (nw3 (S)),ints .u8 (pl)] [#[.int .i64 ((m:Nat):Int)]] [] 26 (by rw [Qar,Qar,Qar,Qar]; simp only [qS,cat,((Qaf _ _).trans (Qa8 _)),((Qaf _ _).trans hpl)]; rfl) 0 _ rfl) kj)) ?_
  refine Qam (.pointer (some ⟨g,0,none⟩)) kj kj (fun W=>by kernel_rfl) <| Qam (.pointer (some ⟨g,9,none⟩)) kj kj (fun W=>by kernel_rfl) <| Qam (.pointer (some ⟨g,9+m*1,none⟩)) kj kj (fun W=>(QdH 224 _ _ .i64 m g 9 17 5 1 rfl kj kj kj kj (show m<17 by omega))) <| Qbf (hF _ kj fun W1 e1=>?_)
  simp only [ups,up,Kn.val,List.take_succ_cons,List.take_zero,List.drop_succ_cons,List.drop_zero,List.nil_append,List.cons_append]
  clear hF
  have r1_1:=(Qab hg e1)
  refine Qal g _ (cat [ints .u64 (nw3 r),ints .u64 (nw3 s),ints .u64 (nw3 (S)),ints .u8 ((pl).set m 1),#[.int .i64 ((m:Nat):Int)]]) 226 r1_1 rfl kj (Qho 5 _ _ g (9+m*1) 226 [ints .u64 (nw3 r),ints .u64 (nw3 s),ints .u64 (nw3 (S))] [#[.int .i64 ((m:Nat):Int)]] pl 9 m _ r1_1 rfl kj kj kj (by rw [Qar,Qar,Qar]; simp only [qS,cat,((Qaf _ _).trans (Qa8 _))]; rfl) (by omega) (Nat.lt_of_lt_of_eq (show m<17 by omega) hpl.symm)) fun W2 p2 r1_2=>?_
  refine sgN hK2 <| wp_seq_k fun K3 hK3=>QaX 23 [⟨none,[(0,none)]⟩,⟨none,[(0,none)]⟩,⟨none,[(11,some 1)]⟩,⟨none,[(12,some 2)]⟩,⟨none,[(13,some 3)]⟩,⟨none,[(0,none)]⟩,⟨none,[(15,some 5)]⟩,⟨none,[(16,some 6)]⟩,⟨none,[(0,none)]⟩,⟨none,[(18,some 8)]⟩,⟨none,[(19,some 9)]⟩,⟨none,[(20,some 10)]⟩,⟨none,[(21,some 11)]⟩,⟨none,[(17,some 7),(22,some 12)]⟩,⟨none,[(23,some 13)]⟩,⟨none,[(14,some 4),(24,some 14)]⟩,⟨none,[(0,none)]⟩,⟨none,[(26,some 16)]⟩,⟨none,[(27,some 17)]⟩,⟨none,[(28,some 18)]⟩,⟨none,[(25,some 15),(29,some 19)]⟩,⟨none,[(10,some 0)]⟩,⟨none,[(31,some 21)]⟩] kj kj fun F hF=>Qam (.pointer (some ⟨g,0,none⟩)) kj kj (fun W=>by kernel_rfl) <| Qam (.pointer (some ⟨g,0,none⟩)) kj kj (fun W=>by kernel_rfl) <| Qam (.pointer (some ⟨g,0,none⟩)) kj kj (fun W=>by kernel_rfl) <| Qam (.pointer (some ⟨g,6,none⟩)) kj kj (fun W=>by kernel_rfl) <| QaN (.agg (ints .u64 (nw3 (S)))) kj kj (fun W hR=>(QaS 221 _ g 6 226 _ _ _ (Qab (Qab r1_2 (Qak _)) hR) rfl kj (QaQ [ints .u64 (nw3 r),ints .u64 (nw3 s)] [ints .u64 (nw3 (S))] [ints .u8 ((pl).set m 1),#[.int .i64 ((m:Nat):Int)]] 6 (by rw [Qar,Qar]; simp only [qS,cat,((Qaf _ _).trans (Qa8 _))]; rfl)) kj (isz (n:=3) kj ((Qaf _ _).trans (Qa8 _))))) ?_
  refine Qam (.pointer (some ⟨g,0,none⟩)) kj kj (fun W=>by kernel_rfl) <| Qam (.pointer (some ⟨g,0,none⟩)) kj kj (fun W=>by kernel_rfl) <| Qam (.pointer (some ⟨g,9,none⟩)) kj kj (fun W=>by kernel_rfl) <| Qam (.pointer (some ⟨g,0,none⟩)) kj kj (fun W=>by kernel_rfl) <| Qam (.pointer (some ⟨g,0,none⟩)) kj kj (fun W=>by kernel_rfl) <| Qam (.pointer (some ⟨g,26,none⟩)) kj kj (fun W=>by kernel_rfl) <| QaN (.int .i64 ((m:Nat):Int)) kj kj (fun W hR=>(Qah 3 _ g 26 226 _ (.int .i64 ((m:Nat):Int)) _ (Qab (Qab r1_2 (Qak _)) hR) rfl kj (QaQ [ints .u64 (nw3 r),ints .u64 (nw3 s),ints .u64 (nw3 (S)),ints .u8 ((pl).set m 1)] [#[.int .i64 ((m:Nat):Int)]] [] 26 (by rw [Qar,Qar,Qar,Qar]; simp only [qS,cat,((Qaf _ _).trans ((List.length_set ..).trans hpl)),((Qaf _ _).trans (Qa8 _))]; rfl) 0 _ rfl) kj)) ?_
  refine Qam (.int .i64 (((m+1:Nat):Int))) kj kj (fun W=>(Qad (u:=.int .i64 (IntKind.i64.wrap (((m:Nat):Int)+1))) kj (congrArg (Value.int .i64) (IntWalk.i64_in _ (by omega))))) <| Qam (.slice (some ⟨g,9+0,none⟩) ((m+1)-0) (17-0)) kj kj (fun W=>(QbA 224 _ _ _ 0 (m+1) 17 g 9 5 rfl kj kj kj rfl ⟨.i64,by kernel_rfl⟩ (by omega) (by omega) (by omega))) <| Qch (.agg (ints .u64 (nw3 (lev (((pl.set m 1).drop 0).take (m+1-0)))))) 157 #[.slice (some ⟨g,9+0,none⟩) ((m+1)-0) (17-0)] kj kj (fun W=>by kernel_rfl) (fun W hR=>(QhA (((pl.set m 1).drop 0).take (m+1-0)) _ _ W (QjT (n0:=9) (l:=0) (h:=m+1) [ints .u64 (nw3 r),ints .u64 (nw3 s),ints .u64 (nw3 (S))] [#[.int .i64 ((m:Nat):Int)]] kj hpl1 (Qab (Qab r1_2 (Qak _)) hR) (by omega) (by omega) (by decide)) (by rw [List.length_take]; omega) (Qa4 (QaK hpb1 0) _))) ?_
  refine Qch (.agg (ints .u64 (nw3 (S+lev (((pl.set m 1).drop 0).take (m+1-0)))))) 159 #[.agg (ints .u64 (nw3 (S))),.agg (ints .u64 (nw3 (lev (((pl.set m 1).drop 0).take (m+1-0)))))] kj kj (fun W=>by kernel_rfl) (fun W hR=>(Qgg S (lev (((pl.set m 1).drop 0).take (m+1-0))) hS.1 hc0 (by omega) (by omega) (by omega)) W) <| Qam (.pointer (some ⟨g,0,none⟩)) kj kj (fun W=>by kernel_rfl) <| Qam (.pointer (some ⟨g,0,none⟩)) kj kj (fun W=>by kernel_rfl) <| Qam (.pointer (some ⟨g,0,none⟩)) kj kj (fun W=>by kernel_rfl) <| QaN (.agg (ints .u64 (nw3 r))) kj kj (fun W hR=>(QaS 221 _ g 0 226 _ _ _ (Qab (Qab r1_2 (Qak _)) hR) rfl kj (QaQ [] [ints .u64 (nw3 r)] [ints .u64 (nw3 s),ints .u64 (nw3 (S)),ints .u8 ((pl).set m 1),#[.int .i64 ((m:Nat):Int)]] 0 kj) kj (isz (n:=3) kj ((Qaf _ _).trans (Qa8 _))))) <| Qch (.agg (ints .u64 (nw3 (mulV ((S+lev (((pl.set m 1).drop 0).take (m+1-0)))*r))))) 165 #[.agg (ints .u64 (nw3 (S+lev (((pl.set m 1).drop 0).take (m+1-0))))),.agg (ints .u64 (nw3 r))] kj kj (fun W=>by kernel_rfl) (fun W hR=>(Qia (S+lev (((pl.set m 1).drop 0).take (m+1-0))) r (by omega) hr.1 (by omega) hr.2) W) <| Qam (.pointer (some ⟨g,0,none⟩)) kj kj (fun W=>by kernel_rfl) <| Qam (.pointer (some ⟨g,6,none⟩)) kj kj (fun W=>by kernel_rfl) <| Qbf (hF _ kj fun W3 e3=>?_)
  simp only [ups,up,Kn.val,List.take_succ_cons,List.take_zero,List.drop_succ_cons,List.drop_zero,List.nil_append,List.cons_append]
  clear hF
  have r1_3:=(Qab r1_2 e3)
  refine Qal g _ (cat [ints .u64 (nw3 r),ints .u64 (nw3 s),ints .u64 (nw3 (mulV ((S+lev (((pl.set m 1).drop 0).take (m+1-0)))*r))),ints .u8 ((pl).set m 1),#[.int .i64 ((m:Nat):Int)]]) 226 r1_3 rfl kj (Qfj 221 _ _ g 6 226 [ints .u64 (nw3 r),ints .u64 (nw3 s)] [ints .u64 (nw3 (S))] [ints .u64 (nw3 (mulV ((S+lev (((pl.set m 1).drop 0).take (m+1-0)))*r)))] [ints .u8 ((pl).set m 1),#[.int .i64 ((m:Nat):Int)]] r1_3 rfl kj kj (isz (n:=3) kj ((Qaf _ _).trans (Qa8 _))) (by rw [Qar,Qar]; simp only [qS,cat,((Qaf _ _).trans (Qa8 _))]; rfl) (eqsz (n:=3) ((Qaf _ _).trans (Qa8 _)) ((Qaf _ _).trans (Qa8 _))) (QaC _ _)) fun W4 p4 r1_4=>?_
  refine sgN hK3 <| Qac <| sg 3 kj <| Qal g _ (cat [ints .u64 (nw3 r),ints .u64 (nw3 s),ints .u64 (nw3 (mulV ((S+lev (((pl.set m 1).drop 0).take (m+1-0)))*r))),ints .u8 ((pl).set m 1),#[.int .i64 0]]) 226 r1_4 rfl kj (run_storeQ 3 _ _ g 26 226 [ints .u64 (nw3 r),ints .u64 (nw3 s),ints .u64 (nw3 (mulV ((S+lev (((pl.set m 1).drop 0).take (m+1-0)))*r))),ints .u8 ((pl).set m 1)] [] _ (.int .i64 0) r1_4 rfl kj kj kj (by rw [Qar,Qar,Qar,Qar]; simp only [qS,cat,((Qaf _ _).trans ((List.length_set ..).trans hpl)),((Qaf _ _).trans (Qa8 _))]; rfl) rfl rfl) fun W5 p5 r1_5=>?_
  refine Qae ?_
  repeat (first | with_reducible refine goX1 ?_ | with_reducible refine goX2 ?_ | with_reducible refine goX3 ?_)
  exact (show bodyPost _ _ _ .normal _ _ from end0 rfl ⟨rfl,(ExtB.puts (ExtB.puts (ExtB.ext (ExtB.puts (ExtB.ext (ExtB.refl g w) e1) p2) e3) p4) p5),by have h9:=r1_5; rw [hset] at h9; exact h9⟩)
end Go.Proofs.YtoiendjhplbjjaaDoor.Ae
end
section
namespace Go.Proofs.YtoiendjhplbjjaaDoor.Ae
open Go Go.RowKit
open Rely Auto Own Sha
open Sha Cha
section
variable {ds : List Deferred} {P : Program} {ops : Array Oper} {Q : Exit → Act → World → Prop} {rest : List Oper} {o : Oper} {N : Nat} {L : Env} {W : World}
theorem Qf9 {k : IntKind} {e:TypeId} (x y:Operand) (tx ty:TypeId) (d:Nat) (ho:o.op=.call { callee:=.builtin .copy,args:=#[x,y],argTypes:=#[tx,ty] }) (hu:P.underlying tx=some (.slice e)) (hsz:(P.info? e).map (·.size)=some 1) (hd:o.dst=some d) (hgd:QbT ops o N L=some true)
    {g n0 off dl dc n B:Nat} (pre post:List (Array Value)) {xs z:List Int} {v:Value} {T:TypeId} (hp:(cat pre).size=n0) (hx:Rely.look (envN N L) x=.slice (some ⟨g,n0+off,none⟩) dl dc) (hy:Rely.look (envN N L) y=v) (hr:RdK k B z v W)
    (hg:W.heap[g]? = some (.cells (cat (pre++([ints k xs]++post))) T)) (hq:off+dl≤xs.length) (hn:n=min z.length dl) (h0:0<n)
    (kk:∀ W':World,Puts W g W'→W'.heap[g]? = some (.cells (cat (pre++([ints k (xs.take off++z.take n++xs.drop (off+n))]++post))) T)→WL P ops Q rest (Qaz ds N ((d,.int .i64 ((n:Nat):Int))::L)) W'):WL P ops Q (o::rest) (Qaz ds N L) W:=by
  obtain ⟨a,cap,rfl,y2,y3,y4,y5⟩:=hr
  have hgo:∀ W',(Builtin.copy_ #[tx,ty] o.type #[.slice (some ⟨g,n0+off,none⟩) dl dc,.slice a z.length cap]).run P W=.ok (goInt n) W'→(execOp (Rely.look (envN N L)) o).run P W=.ok (.value (.int .i64 ((n:Nat):Int))) W':=fun W' h=>by
    unfold execOp
    simp only [ho,resolve,invoke,builtin,Sem.run_bind,Sem.run_pure,Result.andThen_ok,List.map_toArray,List.map_cons,List.map_nil,hx,hy,h,goInt]
  obtain ⟨gz,oz,rfl,z2,z3,z4⟩:=y5.resolve_left (fun e=>by rw [e] at hn; simp at hn; omega)
  have hlen:((z.take n).map (Value.int k)).length=n:=by simp; omega
  have hsz2:(cat (pre++([ints k xs]++post))).size=n0+xs.length+(cat post).size:=by
    rw [QaE,QaE,qS,qS,hp]
    show n0+((cat [ints k xs]).size+(cat post).size)=_
    rw [show cat [ints k xs]=ints k xs by simp [cat],Qaf]; omega
  have h:=run_copy_row (P:=P) W tx ty o.type e g (n0+off) dl dc ⟨gz,oz,none⟩ z.length cap (cat (pre++([ints k xs]++post))) T ((z.take n).map (Value.int k)) hu hsz hg (by rw [hlen]; exact hn)
    (QiS (k:=k) (ys:=z.take n) fun i hi=>by
      rw [List.length_take] at hi
      rw [z4 i (by omega)]
      simp [nth,show i<n by omega]) (by rw [hlen,hsz2]; omega) (QiQ k _)
  rw [hlen] at h
  have hpl:(cat pre).toList.length=n0:=by rw [Array.length_toList,hp]
  have e1:((cat (pre++([ints k xs]++post))).toList.take (n0+off)++(z.take n).map (Value.int k)++(cat (pre++([ints k xs]++post))).toList.drop (n0+off+n)).toArray=cat (pre++([ints k (xs.take off++z.take n++xs.drop (off+n))]++post)):=by
    apply Array.ext'
    have ec:∀ ys:List Int,(cat (pre++([ints k ys]++post))).toList=(cat pre).toList++(ys.map (Value.int k)++(cat post).toList):=fun ys=>by
      rw [QaE,QaE]
      simp [cat,ints]
    show (cat (pre++([ints k xs]++post))).toList.take (n0+off)++(z.take n).map (Value.int k)++(cat (pre++([ints k xs]++post))).toList.drop (n0+off+n)=_
    rw [ec,ec,List.take_append,List.take_of_length_le (by omega),hpl,show n0+off-n0=off by omega,List.take_append_of_le_length (by rw [List.length_map]; omega),List.drop_append,List.drop_of_length_le (by omega),hpl,show n0+off+n-n0=off+n by omega,List.nil_append,List.drop_append_of_le_length (by rw [List.length_map]; omega)]
    simp only [List.map_append,List.map_take,List.map_drop,List.append_assoc]
  rw [e1] at h
  exact Qcn _ _ d hd hgd (hgo _ h) (kk _ (QbY _ _ _) (setRow_heap _ _ _ _ _ _ hg))
end
theorem Qe4 (r : Int) (u z:List Int):∀ n,16*n≤u.length→Qc8 r (u++z) n=Qc8 r u n
  | 0,_=>rfl
  | n+1,h=>by
    unfold Qc8
    rw [Qe4 r u z n (by omega),List.drop_append_of_le_length (by omega),List.take_append_of_le_length (by rw [List.length_drop]; omega)]
theorem Qlc {r S:Int} {u z:List Int} {q m:Nat} (hu:u.length=16*q+m) (hz:z.length=16-m) (hm:m<16) (hS:S%PP=Qc8 r u q):Qez r S (u.drop (16*q)++z)%PP=Qc8 r (u++z) (q+1):=by
  unfold Qc8 Qez
  rw [Qe4 r u z q (by omega),List.drop_append_of_le_length (by omega),List.take_of_length_le (by rw [List.length_append,List.length_drop]; omega)]
  exact Qdv hS (QgE _)
theorem QfR {pl z:List Int} {m n:Nat} (hm:m≤pl.length) (hz:z.length=n):(pl.take m++z++pl.drop (m+n)).take (m+n)=pl.take m++z:=by
  have h1:(pl.take m++z).length=m+n:=by rw [List.length_append,List.length_take,hz]; omega
  rw [List.take_append_of_le_length (by omega),List.take_of_length_le (by omega)]
theorem QgK {pl z:List Int} {m n:Nat} (hm:m+n≤pl.length) (hz:z.length=n):(pl.take m++z++pl.drop (m+n)).length=pl.length:=by
  rw [List.length_append,List.length_append,List.length_take,List.length_drop,hz]; omega
theorem Qf2 (ys : List Int) (k n:Nat):ys.take (k+n)=ys.take k++(ys.drop k).take n:=List.take_add ..
def Mk (g : Nat) (r s:Int) (t:List Int) (W:World):Prop:=∃ (S:Int) (pl:List Int) (q m:Nat),t.length=16*q+m∧m<16∧W.heap[g]? = some (.cells (cat [ints .u64 (nw3 r),ints .u64 (nw3 s),ints .u64 (nw3 (S)),ints .u8 (pl),#[.int .i64 ((m:Nat):Int)]]) 226)∧S%PP=Qc8 r t q∧(0≤S∧S<2041694201525630780780247644590609268736)∧pl.length=17∧Qai pl∧pl.take m=t.drop (16*q)
set_option maxRecDepth 100000 in
theorem addC (g : Nat) (r s:Int) (t ys:List Int) (v:Value) (B:Nat) (w:World) (hr:0≤r∧r<21267647932558653966460912964485513216) (hBg:B≤g) (hy:RdK .u8 B ys v w) (hyb:Qai ys) (hyl:ys.length≤3000000) (hM:Mk g r s t w) :
  Calls Tryd.prog 143 #[.pointer (some ⟨g,0,none⟩),v] w (fun e W=>e=.returned (.tuple #[])∧ExtB g w W∧Mk g r s (t++ys) W):=by
 obtain ⟨S0,pl0,q0,m0,hq0,hm0,hg,hSm0,hS0,hpl0,hpb0,hpt0⟩:=hM
 refine enter 36 [(0,.pointer (some ⟨g,0,none⟩)),(1,v)] Tryd.func143 rfl rfl kj rfl <| wp_block <| QaB (fun (s1:Nat×Nat×Nat×Int×List Int×Value)=>[(0,.pointer (some ⟨g,0,none⟩)),(1,s1.2.2.2.2.2)]) (fun (s1:Nat×Nat×Nat×Int×List Int×Value) W=>(s1.1≤ys.length)∧(RdK .u8 B (ys.drop s1.1) s1.2.2.2.2.2 W)∧(t.length+s1.1=16*s1.2.2.1+s1.2.1∧s1.2.1<16)∧(s1.2.2.2.1%PP=Qc8 r (t++ys.take s1.1) s1.2.2.1)∧(0≤s1.2.2.2.1∧s1.2.2.2.1<2041694201525630780780247644590609268736)∧(s1.2.2.2.2.1.length=17)∧(Qai s1.2.2.2.2.1)∧(s1.2.2.2.2.1.take s1.2.1=(t++ys.take s1.1).drop (16*s1.2.2.1))∧(W.heap[g]? = some (.cells (cat [ints .u64 (nw3 r),ints .u64 (nw3 s),ints .u64 (nw3 (s1.2.2.2.1)),ints .u8 (s1.2.2.2.2.1),#[.int .i64 ((s1.2.1:Nat):Int)]]) 226))∧(Qa2 [g] w W)∧(ExtB g w W)) (fun (s1:Nat×Nat×Nat×Int×List Int×Value)=>ys.length-s1.1) (0,m0,q0,S0,pl0,v) ⟨kj,kj,trivial⟩ ⟨(Nat.zero_le _),(show RdK .u8 B (ys.drop 0) v w from hy),⟨hq0,hm0⟩,(show S0%PP=Qc8 r (t++ys.take 0) q0 by rw [List.take_zero,List.append_nil]; exact hSm0),hS0,hpl0,hpb0,(show pl0.take m0=(t++ys.take 0).drop (16*q0) by rw [List.take_zero,List.append_nil]; exact hpt0),hg,(Qa2.refl [g] w),(ExtB.refl g w)⟩ fun s1 X1 V1 hI1=>?_
 obtain ⟨k,m,q,S,pl,bv⟩:=s1
 obtain ⟨hk,hrb,hmq,hSm,hS,hpl,hpb,hpt,q1_1,kk1,xx1⟩:=hI1
 replace hk:k≤ys.length:=hk
 replace hrb:RdK .u8 B (ys.drop k) bv V1:=hrb
 replace hmq:t.length+k=16*q+m∧m<16:=hmq
 replace hSm:S%PP=Qc8 r (t++ys.take k) q:=hSm
 replace hS:0≤S∧S<2041694201525630780780247644590609268736:=hS
 replace hpl:pl.length=17:=hpl
 replace hpb:Qai pl:=hpb
 replace hpt:pl.take m=(t++ys.take k).drop (16*q):=hpt
 replace q1_1:V1.heap[g]? = some (.cells (cat [ints .u64 (nw3 r),ints .u64 (nw3 s),ints .u64 (nw3 (S)),ints .u8 (pl),#[.int .i64 ((m:Nat):Int)]]) 226):=q1_1
 replace kk1:Qa2 [g] w V1:=kk1
 replace xx1:ExtB g w V1:=xx1
 have q1:=kk1
 obtain ⟨ab,cb,rfl,hcb,-,-,-⟩:=id hrb
 have hld:(ys.drop k).length=ys.length-k:=List.length_drop ..
 refine wp_seq_k fun K2 hK2=>sgB kj <| Qa7 (t:=decide ((((ys.drop k).length:Nat):Int)>0)) kj (fun c4=>?_) (fun c4=>?_)
 ·skip
  have hlt:k<ys.length:=by have:=of_decide_eq_true c4; omega
  refine wp_skip <| hK2 _ _ <| wp_block <| wp_seq_k fun K5 hK5=>?_
  rcases (show 16-m≤ys.length-k∨ys.length-k<16-m by omega) with hq | hq
  ·skip
   obtain ⟨n,en⟩:∃ z,z=(16-m):=⟨_,rfl⟩
   have hn0:0<n∧m+n≤16∧k+n≤ys.length:=by omega
   have hnm:n=min (ys.drop k).length (16-m):=by omega
   refine QaL 9 [⟨none,[(0,none)]⟩,⟨none,[(8,some 0)]⟩,⟨none,[(9,some 1)]⟩,⟨none,[(0,none)]⟩,⟨none,[(11,some 3)]⟩,⟨none,[(12,some 4)]⟩,⟨none,[(13,some 5)]⟩,⟨none,[(10,some 2),(14,some 6)]⟩,⟨none,[(1,none)]⟩] kj kj fun F hF=>Qay (Qaj _) (.pointer (some ⟨g,0,none⟩)) kj kj (fun W=>by kernel_rfl) <| Qay (Qaj _) (.pointer (some ⟨g,0,none⟩)) kj kj (fun W=>by kernel_rfl) <| Qay (Qaj _) (.pointer (some ⟨g,9,none⟩)) kj kj (fun W=>by kernel_rfl) <| Qay (Qaj _) (.pointer (some ⟨g,0,none⟩)) kj kj (fun W=>by kernel_rfl) <| Qay (Qaj _) (.pointer (some ⟨g,0,none⟩)) kj kj (fun W=>by kernel_rfl) <| Qay (Qaj _) (.pointer (some ⟨g,26,none⟩)) kj kj (fun W=>by kernel_rfl) <| Qbi (Qaj _) (.int .i64 ((m:Nat):Int)) kj kj (fun W hR=>(Qah 3 _ g 26 226 _ (.int .i64 ((m:Nat):Int)) _ (Qab (Qab q1_1 (Qak _)) hR) rfl kj (QaQ [ints .u64 (nw3 r),ints .u64 (nw3 s),ints .u64 (nw3 (S)),ints .u8 (pl)] [#[.int .i64 ((m:Nat):Int)]] [] 26 (by rw [Qar,Qar,Qar,Qar]; simp only [qS,cat,((Qaf _ _).trans (Qa8 _)),((Qaf _ _).trans hpl)]; rfl) 0 _ rfl) kj)) ?_
   refine Qay (Qaj _) (.slice (some ⟨g,9+m,none⟩) (16-m) (17-m)) kj kj (fun W=>(QbA 224 _ _ _ m 16 17 g 9 5 rfl kj kj kj ⟨.i64,by kernel_rfl⟩ ⟨.i64,by kernel_rfl⟩ (by omega) (by omega) (by omega))) <| Qay (Qaj _) (.slice ab ((ys.drop k).length) cb) kj kj (fun W=>by kernel_rfl) <| Qck (hF _ fun W2 e2=>?_)
   simp only [List.nil_append,List.cons_append,List.take_succ_cons,List.take_zero,List.drop_succ_cons,List.drop_zero,finE,up]
   clear hF
   have x2:=ExtB.ext xx1 e2
   have r1_2:=(Qab q1_1 e2)
   have f6_2:=(hrb.ext e2)
   refine Qf9 (k:=.u8) (e:=5) (n0:=9) (off:=m) (dl:=16-m) (dc:=17-m) (n:=n) (.tmp 15) (.tmp 16) 33 33 17 rfl kj kj rfl kj [ints .u64 (nw3 r),ints .u64 (nw3 s),ints .u64 (nw3 (S))] [#[.int .i64 ((m:Nat):Int)]] (xs:=pl) (z:=ys.drop k) kj kj kj f6_2 r1_2 (by rw [hpl]; omega) hnm hn0.1 fun W3 p3 r1_3=>?_
   have x3:=ExtB.puts x2 p3
   obtain ⟨z,ez⟩:∃ z,z=(ys.drop k).take n:=⟨_,rfl⟩
   have hzl:z.length=n:=by rw [ez,List.length_take]; omega
   have hzb:Qai z:=ez▸Qa4 (QaK hyb k) n
   rw [←ez] at r1_3
   obtain ⟨pl1,epl1⟩:∃ y,y=pl.take m++z++pl.drop (m+n):=⟨_,rfl⟩
   have hpl1:pl1.length=17:=by rw [epl1,QgK (by omega) hzl,hpl]
   have hpb1:Qai pl1:=epl1▸QaR (QaR (Qa4 hpb m) hzb) (QaK hpb _)
   rw [←epl1] at r1_3
   have hpt1:pl1.take (m+n)=pl.take m++z:=by rw [epl1]; exact QfR (by omega) hzl
   refine sg 1 kj <| sgN hK5 <| sgC fun K7 hK7=>sg 2 kj <| Qaa (.slice (QbN ab cb n) ((ys.drop k).length-n) (cb-n)) 20 rfl kj (QbH (len:=(ys.drop k).length) 33 _ _ n 5 rfl kj kj kj .i64 kj (by omega) hcb) <| sg 1 kj <| sgN hK7 <| sgC fun K8 hK8=>sg 3 kj <| Qaa (.int .i64 ((m:Nat):Int)) 24 rfl kj (Qah 3 _ g 26 226 _ (.int .i64 ((m:Nat):Int)) _ r1_3 rfl kj (QaQ [ints .u64 (nw3 r),ints .u64 (nw3 s),ints .u64 (nw3 (S)),ints .u8 (pl1)] [#[.int .i64 ((m:Nat):Int)]] [] 26 (by rw [Qar,Qar,Qar,Qar]; simp only [qS,cat,((Qaf _ _).trans (Qa8 _)),((Qaf _ _).trans hpl1)]; rfl) 0 _ rfl) kj) ?_
   refine sg 1 kj <| Qaa (.int .i64 ((m+n:Nat):Int)) 26 rfl kj (Qad (u:=.int .i64 (IntKind.i64.wrap (((m:Nat):Int)+((n:Nat):Int)))) kj (congrArg (Value.int .i64) (i64n _ _ (by omega) (by omega)))) <| sg 2 kj <| Qal g _ (cat [ints .u64 (nw3 r),ints .u64 (nw3 s),ints .u64 (nw3 (S)),ints .u8 (pl1),#[.int .i64 ((m+n:Nat):Int)]]) 226 r1_3 rfl kj (run_storeQ 3 _ _ g 26 226 [ints .u64 (nw3 r),ints .u64 (nw3 s),ints .u64 (nw3 (S)),ints .u8 (pl1)] [] _ (.int .i64 ((m+n:Nat):Int)) r1_3 rfl kj kj kj (by rw [Qar,Qar,Qar,Qar]; simp only [qS,cat,((Qaf _ _).trans (Qa8 _)),((Qaf _ _).trans hpl1)]; rfl) rfl rfl) fun W4 p4 r1_4=>?_
   have x4:=ExtB.puts x3 p4
   refine sgN hK8 <| sgC fun K9 hK9=>sg 3 kj <| Qaa (.int .i64 ((m+n:Nat):Int)) 32 rfl kj (Qah 3 _ g 26 226 _ (.int .i64 ((m+n:Nat):Int)) _ r1_4 rfl kj (QaQ [ints .u64 (nw3 r),ints .u64 (nw3 s),ints .u64 (nw3 (S)),ints .u8 (pl1)] [#[.int .i64 ((m+n:Nat):Int)]] [] 26 (by rw [Qar,Qar,Qar,Qar]; simp only [qS,cat,((Qaf _ _).trans (Qa8 _)),((Qaf _ _).trans hpl1)]; rfl) 0 _ rfl) kj) ?_
   refine Qaa (.bool true) 33 rfl kj (Qad (u:=.bool ((((m+n:Nat):Int)==16))) kj (congrArg Value.bool (by rw [show m+n=16 by omega]; rfl))) ?_
   refine sgN hK9 <| cond_true kj <| Qac <| sg 1 kj <| Qat (fun v W'=>v=.tuple #[]∧ExtB g W4 W'∧W'.heap[g]? = some (.cells (cat [ints .u64 (nw3 r),ints .u64 (nw3 s),ints .u64 (nw3 (Qez r S (pl1.take (m+n)))),ints .u8 (pl1.set (m+n) 1),#[.int .i64 0]]) 226)) 158 #[.pointer (some ⟨g,0,none⟩)] 35 rfl kj kj ((Qk3 g r s S pl1 (m+n) _ hr hS hpl1 hpb1 hn0.2.1 r1_4).mono fun e w' h=>⟨_,h.1,rfl,h.2⟩) fun v W5 h=>?_
   obtain ⟨rfl,q5,r1_5⟩:=h
   have hpl2:(pl1.set (m+n) 1).length=17:=by rw [List.length_set,hpl1]
   refine Qae ?_
   have hu:(t++ys.take k).length=16*q+m:=by rw [List.length_append,List.length_take]; omega
   have htk:t++ys.take (k+n)=(t++ys.take k)++z:=by rw [Qf2 ys k n,←ez,List.append_assoc]
   repeat (first | with_reducible refine goX1 ?_ | with_reducible refine goX2 ?_ | with_reducible refine goX3 ?_)
   exact Qax ((k+n),0,(q+1),(Qez r S (pl1.take (m+n))),(pl1.set (m+n) 1),(.slice (QbN ab cb n) ((ys.drop k).length-n) (cb-n))) ⟨kj,kj,trivial⟩ ⟨(show k+n≤ys.length by omega),(by rw [show ys.drop (k+n)=(ys.drop k).drop n from (List.drop_drop ..).symm]; exact Qc1 (((f6_2.puts p3 hBg).puts p4 hBg).extB q5 hBg) n (by omega)),(show t.length+(k+n)=16*(q+1)+0∧0<16 by omega),(show _=Qc8 r (t++ys.take (k+n)) (q+1) by rw [hpt1,hpt,htk]; exact Qlc hu (by omega) hmq.2 hSm),(Qgx hS hr (Qa4 hpb1 _) (by rw [List.length_take]; omega)),hpl2,(QaY hpb1 _ (by decide) (by decide)),(show (pl1.set (m+n) 1).take 0=(t++ys.take (k+n)).drop (16*(q+1)) by rw [htk,List.take_zero,List.drop_of_length_le (by rw [List.length_append,hu]; omega)]),r1_5,(Qa2.but (Qa2.puts (Qa2.puts (Qa2.step q1 e2) p3 (.inl (by simp))) p4 (.inl (by simp))) q5 (.inl (by simp))),(ExtB.trans x4 q5)⟩ (by show ys.length-(k+n)<ys.length-k; omega)
  ·skip
   obtain ⟨n,en⟩:∃ z,z=(ys.length-k):=⟨_,rfl⟩
   have hn0:0<n∧m+n≤16∧k+n≤ys.length:=by omega
   have hnm:n=min (ys.drop k).length (16-m):=by omega
   refine QaL 9 [⟨none,[(0,none)]⟩,⟨none,[(8,some 0)]⟩,⟨none,[(9,some 1)]⟩,⟨none,[(0,none)]⟩,⟨none,[(11,some 3)]⟩,⟨none,[(12,some 4)]⟩,⟨none,[(13,some 5)]⟩,⟨none,[(10,some 2),(14,some 6)]⟩,⟨none,[(1,none)]⟩] kj kj fun F hF=>Qay (Qaj _) (.pointer (some ⟨g,0,none⟩)) kj kj (fun W=>by kernel_rfl) <| Qay (Qaj _) (.pointer (some ⟨g,0,none⟩)) kj kj (fun W=>by kernel_rfl) <| Qay (Qaj _) (.pointer (some ⟨g,9,none⟩)) kj kj (fun W=>by kernel_rfl) <| Qay (Qaj _) (.pointer (some ⟨g,0,none⟩)) kj kj (fun W=>by kernel_rfl) <| Qay (Qaj _) (.pointer (some ⟨g,0,none⟩)) kj kj (fun W=>by kernel_rfl) <| Qay (Qaj _) (.pointer (some ⟨g,26,none⟩)) kj kj (fun W=>by kernel_rfl) <| Qbi (Qaj _) (.int .i64 ((m:Nat):Int)) kj kj (fun W hR=>(Qah 3 _ g 26 226 _ (.int .i64 ((m:Nat):Int)) _ (Qab (Qab q1_1 (Qak _)) hR) rfl kj (QaQ [ints .u64 (nw3 r),ints .u64 (nw3 s),ints .u64 (nw3 (S)),ints .u8 (pl)] [#[.int .i64 ((m:Nat):Int)]] [] 26 (by rw [Qar,Qar,Qar,Qar]; simp only [qS,cat,((Qaf _ _).trans (Qa8 _)),((Qaf _ _).trans hpl)]; rfl) 0 _ rfl) kj)) ?_
   refine Qay (Qaj _) (.slice (some ⟨g,9+m,none⟩) (16-m) (17-m)) kj kj (fun W=>(QbA 224 _ _ _ m 16 17 g 9 5 rfl kj kj kj ⟨.i64,by kernel_rfl⟩ ⟨.i64,by kernel_rfl⟩ (by omega) (by omega) (by omega))) <| Qay (Qaj _) (.slice ab ((ys.drop k).length) cb) kj kj (fun W=>by kernel_rfl) <| Qck (hF _ fun W2 e2=>?_)
   simp only [List.nil_append,List.cons_append,List.take_succ_cons,List.take_zero,List.drop_succ_cons,List.drop_zero,finE,up]
   clear hF
   have x2:=ExtB.ext xx1 e2
   have r1_2:=(Qab q1_1 e2)
   have f13_2:=(hrb.ext e2)
   refine Qf9 (k:=.u8) (e:=5) (n0:=9) (off:=m) (dl:=16-m) (dc:=17-m) (n:=n) (.tmp 15) (.tmp 16) 33 33 17 rfl kj kj rfl kj [ints .u64 (nw3 r),ints .u64 (nw3 s),ints .u64 (nw3 (S))] [#[.int .i64 ((m:Nat):Int)]] (xs:=pl) (z:=ys.drop k) kj kj kj f13_2 r1_2 (by rw [hpl]; omega) hnm hn0.1 fun W3 p3 r1_3=>?_
   have x3:=ExtB.puts x2 p3
   obtain ⟨z,ez⟩:∃ z,z=(ys.drop k).take n:=⟨_,rfl⟩
   have hzl:z.length=n:=by rw [ez,List.length_take]; omega
   have hzb:Qai z:=ez▸Qa4 (QaK hyb k) n
   rw [←ez] at r1_3
   obtain ⟨pl1,epl1⟩:∃ y,y=pl.take m++z++pl.drop (m+n):=⟨_,rfl⟩
   have hpl1:pl1.length=17:=by rw [epl1,QgK (by omega) hzl,hpl]
   have hpb1:Qai pl1:=epl1▸QaR (QaR (Qa4 hpb m) hzb) (QaK hpb _)
   rw [←epl1] at r1_3
   have hpt1:pl1.take (m+n)=pl.take m++z:=by rw [epl1]; exact QfR (by omega) hzl
   refine sg 1 kj <| sgN hK5 <| sgC fun K14 hK14=>sg 2 kj <| Qaa (.slice (QbN ab cb n) ((ys.drop k).length-n) (cb-n)) 20 rfl kj (QbH (len:=(ys.drop k).length) 33 _ _ n 5 rfl kj kj kj .i64 kj (by omega) hcb) <| sg 1 kj <| sgN hK14 <| sgC fun K15 hK15=>sg 3 kj <| Qaa (.int .i64 ((m:Nat):Int)) 24 rfl kj (Qah 3 _ g 26 226 _ (.int .i64 ((m:Nat):Int)) _ r1_3 rfl kj (QaQ [ints .u64 (nw3 r),ints .u64 (nw3 s),ints .u64 (nw3 (S)),ints .u8 (pl1)] [#[.int .i64 ((m:Nat):Int)]] [] 26 (by rw [Qar,Qar,Qar,Qar]; simp only [qS,cat,((Qaf _ _).trans (Qa8 _)),((Qaf _ _).trans hpl1)]; rfl) 0 _ rfl) kj) ?_
   refine sg 1 kj <| Qaa (.int .i64 ((m+n:Nat):Int)) 26 rfl kj (Qad (u:=.int .i64 (IntKind.i64.wrap (((m:Nat):Int)+((n:Nat):Int)))) kj (congrArg (Value.int .i64) (i64n _ _ (by omega) (by omega)))) <| sg 2 kj <| Qal g _ (cat [ints .u64 (nw3 r),ints .u64 (nw3 s),ints .u64 (nw3 (S)),ints .u8 (pl1),#[.int .i64 ((m+n:Nat):Int)]]) 226 r1_3 rfl kj (run_storeQ 3 _ _ g 26 226 [ints .u64 (nw3 r),ints .u64 (nw3 s),ints .u64 (nw3 (S)),ints .u8 (pl1)] [] _ (.int .i64 ((m+n:Nat):Int)) r1_3 rfl kj kj kj (by rw [Qar,Qar,Qar,Qar]; simp only [qS,cat,((Qaf _ _).trans (Qa8 _)),((Qaf _ _).trans hpl1)]; rfl) rfl rfl) fun W4 p4 r1_4=>?_
   have x4:=ExtB.puts x3 p4
   refine sgN hK15 <| sgC fun K16 hK16=>sg 3 kj <| Qaa (.int .i64 ((m+n:Nat):Int)) 32 rfl kj (Qah 3 _ g 26 226 _ (.int .i64 ((m+n:Nat):Int)) _ r1_4 rfl kj (QaQ [ints .u64 (nw3 r),ints .u64 (nw3 s),ints .u64 (nw3 (S)),ints .u8 (pl1)] [#[.int .i64 ((m+n:Nat):Int)]] [] 26 (by rw [Qar,Qar,Qar,Qar]; simp only [qS,cat,((Qaf _ _).trans (Qa8 _)),((Qaf _ _).trans hpl1)]; rfl) 0 _ rfl) kj) ?_
   refine Qaa (.bool false) 33 rfl kj (Qad (u:=.bool ((((m+n:Nat):Int)==16))) kj (congrArg Value.bool (beq_eq_false_iff_ne.2 (by omega)))) <| sgN hK16 <| cond_false kj <| wp_skip ?_
   have hu:(t++ys.take k).length=16*q+m:=by rw [List.length_append,List.length_take]; omega
   have htk:t++ys.take (k+n)=(t++ys.take k)++z:=by rw [Qf2 ys k n,←ez,List.append_assoc]
   repeat (first | with_reducible refine goX1 ?_ | with_reducible refine goX2 ?_ | with_reducible refine goX3 ?_)
   exact Qax ((k+n),(m+n),q,S,pl1,(.slice (QbN ab cb n) ((ys.drop k).length-n) (cb-n))) ⟨kj,kj,trivial⟩ ⟨(show k+n≤ys.length by omega),(by rw [show ys.drop (k+n)=(ys.drop k).drop n from (List.drop_drop ..).symm]; exact Qc1 ((f13_2.puts p3 hBg).puts p4 hBg) n (by omega)),(show t.length+(k+n)=16*q+(m+n)∧m+n<16 by omega),(show _=Qc8 r (t++ys.take (k+n)) q by rw [htk,Qe4 _ _ _ _ (by omega)]; exact hSm),hS,hpl1,hpb1,(show pl1.take (m+n)=(t++ys.take (k+n)).drop (16*q) by rw [htk,hpt1,hpt]; exact (List.drop_append_of_le_length (by omega)).symm),r1_4,(Qa2.puts (Qa2.puts (Qa2.step q1 e2) p3 (.inl (by simp))) p4 (.inl (by simp))),x4⟩ (by show ys.length-(k+n)<ys.length-k; omega)
 ·skip
  have hke:k=ys.length:=by have:=of_decide_eq_false c4; omega
  refine wp_exit ?_
  repeat (first | with_reducible refine goX1 ?_ | with_reducible refine goX2 ?_ | with_reducible refine goX3 ?_)
  exact (show bodyPost _ _ _ .normal _ _ from end0 rfl ⟨rfl,xx1,S,pl,q,m,by rw [List.length_append]; omega,hmq.2,q1_1,by rw [hke,List.take_length] at hSm; exact hSm,hS,hpl,hpb,by rw [hke,List.take_length] at hpt; exact hpt⟩)
end Go.Proofs.YtoiendjhplbjjaaDoor.Ae
end
section
namespace Go.Proofs.YtoiendjhplbjjaaDoor.Ae
open Go Go.RowKit
open Rely Auto Own Sha
open Sha Cha
def Qix (b : List Int):List Int :=
  let b1:=b.set 3 (nth b 3%16)
  let b2:=b1.set 7 (nth b1 7%16)
  let b3:=b2.set 11 (nth b2 11%16)
  let b4:=b3.set 15 (nth b3 15%16)
  let b5:=b4.set 4 (nth b4 4/4*4)
  let b6:=b5.set 8 (nth b5 8/4*4)
  let b7:=b6.set 12 (nth b6 12/4*4)
  b7
theorem Qgs : ∀ key:List Int,key.length=32→((Qix key).drop 0).take (16-0)=QdV ((key.drop 0).take (16-0))
  | [a0,a1,a2,a3,a4,a5,a6,a7,a8,a9,a10,a11,a12,a13,a14,a15,a16,a17,a18,a19,a20,a21,a22,a23,a24,a25,a26,a27,a28,a29,a30,a31],_=>by kernel_rfl
theorem Qjm (x : Int) (h:0≤x∧x<256):bits .and .u8 x 15=x%16:=by
  have:∀ n:Fin 256,bits .and .u8 ((n.1:Nat):Int) 15=((n.1:Nat):Int)%16:=by decide +kernel
  obtain ⟨X,rfl⟩:=Int.eq_ofNat_of_zero_le h.1
  exact this ⟨X,by omega⟩
theorem Qi5 (x : Int) (h:0≤x∧x<256):bits .and .u8 x 252=x/4*4:=by
  have:∀ n:Fin 256,bits .and .u8 ((n.1:Nat):Int) 252=((n.1:Nat):Int)/4*4:=by decide +kernel
  obtain ⟨X,rfl⟩:=Int.eq_ofNat_of_zero_le h.1
  exact this ⟨X,by omega⟩
theorem QjX {r : Int} {t:List Int} {q:Nat} (h:t.length=16*q+0):Qdj r t=Qc8 r t q:=by unfold Qdj; rw [show (t.length+15)/16=q by omega]
theorem Qlb {r S:Int} {t:List Int} {q m:Nat} (hu:t.length=16*q+m) (h0:0<m) (hm:m<16) (hS:S%PP=Qc8 r t q):Qez r S (t.drop (16*q))%PP=Qdj r t:=by
  unfold Qdj
  rw [show (t.length+15)/16=q+1 by omega]
  unfold Qc8 Qez
  rw [List.take_of_length_le (by rw [List.length_drop]; omega)]
  exact Qdv hS (QgE _)
theorem geq4 (S : Int) (h0:0≤S) (h:S<2041694201525630780780247644590609268736):decide (nth (nw3 (S+5)) 2≥4)=decide (1361129467683753853853498429727072845824≤S+5):=by
  have e:nth (nw3 (S+5)) 2=(S+5)/340282366920938463463374607431768211456%18446744073709551616:=rfl
  rw [e]
  exact decide_eq_decide.2 (by omega)
theorem QgX (x : Int):by16 (x+1361129467683753853853498429727072845824)=by16 x:=by
  unfold by16
  refine List.map_congr_left fun i hi=>?_
  rw [List.mem_range] at hi
  have h1:(1361129467683753853853498429727072845824:Int)=p256 i*(256*(4*p256 (15-i))):=by
    have h2:p256 16=p256 i*p256 (16-i):=by rw [←Qc3]; congr 1; omega
    rw [show 16-i=(15-i)+1 by omega,QbF (15-i),p16] at h2
    grind
  rw [h1,Int.add_mul_ediv_left _ _ (Int.ne_of_gt (QbQ i))]
  omega
theorem Qjb (a : Int) (b c:Nat):a/p256 b/p256 c=a/p256 (b+c):=by
  rw [Qc3,Int.ediv_ediv,if_neg (by have:=QbQ b; omega)]; exact Int.sub_zero _
theorem Qeu (V : Int) (i:Nat) (hi:i<16):IntKind.u8.wrap (nth (nw3 V) (i/8)/p256 (i%8))=nth (by16 V) i:=by
  have h3:∀ z:Int,IntKind.u8.wrap z=z%256:=fun _=>rfl
  have hp8:p256 8=18446744073709551616:=by decide +kernel
  rw [h3,Qfx _ _ hi]
  have hB:(18446744073709551616:Int)=p256 (i%8)*(256*p256 (7-i%8)):=by
    have h2:p256 8=p256 (i%8)*p256 (8-i%8):=by rw [←Qc3]; congr 1; omega
    rw [show 8-i%8=(7-i%8)+1 by omega,QbF (7-i%8),hp8] at h2
    exact h2
  have key:∀ x:Int,x%18446744073709551616/p256 (i%8)%256=x/p256 (i%8)%256:=fun x=>by
    have h5:x=x%18446744073709551616+p256 (i%8)*(256*(p256 (7-i%8)*(x/18446744073709551616))):=by
      have h6:x=x%18446744073709551616+18446744073709551616*(x/18446744073709551616):=(Int.emod_add_mul_ediv x _).symm
      have h7:(18446744073709551616:Int)*(x/18446744073709551616)=p256 (i%8)*(256*(p256 (7-i%8)*(x/18446744073709551616))):=by
        generalize x/18446744073709551616=y at *
        rw [hB]; grind
      omega
    have h8:x/p256 (i%8)=x%18446744073709551616/p256 (i%8)+256*(p256 (7-i%8)*(x/18446744073709551616)):=by
      have h9:=Int.add_mul_ediv_left (x%18446744073709551616) (256*(p256 (7-i%8)*(x/18446744073709551616))) (Int.ne_of_gt (QbQ (i%8)))
      rw [←h5] at h9
      exact h9
    omega
  rcases (show i/8=0∨i/8=1 by omega) with h | h
  · rw [h]
    show V%18446744073709551616/p256 (i%8)%256=_
    rw [key,show i%8=i by omega]
  · rw [h]
    show V/18446744073709551616%18446744073709551616/p256 (i%8)%256=_
    rw [key,←hp8,Qjb,show 8+i%8=i by omega]
theorem shr8 (q : Int) (t:Nat) (c:Int) (hc:c=((8*t:Nat):Int)) (ht:t<8):q.fdiv (2^min c.toNat IntKind.u64.bits)=q/p256 t:=by
  subst hc
  have hm:min (((8*t:Nat):Int)).toNat IntKind.u64.bits=8*t:=by show min (((8*t:Nat):Int)).toNat 64=8*t; omega
  have e:(2:Int)^(8*t)=p256 t:=by unfold p256; rw [Int.pow_mul]; rfl
  rw [hm,e,Int.fdiv_eq_ediv_of_nonneg _ (Int.le_of_lt (QbQ t))]
theorem Qha {b : List Int} (h:Qai b) (i:Nat):Qai (b.set i (nth b i%16)):=QaY h _ (by omega) (by omega)
theorem Qku {b : List Int} (h:Qai b) (i:Nat):Qai (b.set i (nth b i/4*4)):=QaY h _ (by have:=Qa5 h i; omega) (by have:=Qa5 h i; omega)
theorem QeR (key : List Int) (hkl:key.length=32) (hkb:Qai key):0≤rOf key∧rOf key<21267647932558653966460912964485513216:=by
  unfold rOf
  obtain ⟨b0,e0⟩:∃ z,z=(key.drop 0).take (16-0):=⟨_,rfl⟩
  have hl0:b0.length=16:=by rw [e0,List.length_take,List.length_drop,hkl]; rfl
  have hb0:Qai b0:=e0▸Qa4 (QaK hkb 0) _
  rw [←e0]
  have hcb:Qai (QdV b0):=by
    exact Qku (Qku (Qku (Qha (Qha (Qha (Qha hb0 3) 7) 11) 15) 4) 8) 12
  have hl:(QdV b0).length=16:=by unfold QdV; simp only [List.length_set,hl0]
  have h15:nth (QdV b0) 15≤15:=by
    obtain ⟨x15,e15⟩:∃ x,nth (QdV b0) 15=x%16:=by
      match b0,hl0 with
      | [a0,a1,a2,a3,a4,a5,a6,a7,a8,a9,a10,a11,a12,a13,a14,a15],_=>exact ⟨a15,rfl⟩
    rw [e15]; omega
  have h1:=Qbe (QdV b0) 15 (by omega)
  rw [List.take_of_length_le (by omega)] at h1
  have h2:=Qd7 (Qa4 hcb 15)
  have h3:=Qbh hcb
  rw [List.length_take,Nat.min_eq_left (by omega)] at h2
  have hp15:p256 15=1329227995784915872903807060280344576:=by decide +kernel
  rw [hp15] at h1 h2
  omega
theorem Qk6 (key : List Int) (hkl:key.length=32) (hkb:Qai key):0≤sOf key∧sOf key<340282366920938463463374607431768211456:=by
  unfold sOf
  have h1:=Qd7 (Qa4 (QaK hkb 16) (32-16))
  rw [List.length_take,List.length_drop,hkl] at h1
  exact ⟨Qbh (Qa4 (QaK hkb 16) _),by rw [←p16]; exact h1⟩
set_option maxRecDepth 100000 in
theorem Qhx (key : List Int) (w:World) (hkl:key.length=32) (hkb:Qai key):Calls Tryd.prog 142 #[.agg (ints .u8 key)] w (QbD w (fun v W=>∃ g,v=.pointer (some ⟨g,0,none⟩)∧w.heap.size≤g∧Mk g (rOf key) (sOf key) [] W)):=by
  refine enter 35 [(0,.agg (ints .u8 (key)))] Tryd.func142 rfl rfl kj rfl <| sgC fun K1 hK1=>Qas (ints .u8 (key)) 23 1 rfl kj kj fun g2 W1 l2 e1 r2_1=>?_
  have b2:=qT (Rely.Ext.refl w).size l2
  refine sg 1 kj <| sgN hK1 <| sgC fun K3 hK3=>Qaa (.slice (some ⟨g2,0+16,none⟩) (32-16) (32-16)) 8 rfl kj (QbA 23 _ _ _ 16 32 32 g2 0 5 rfl kj kj kj ⟨.i64,by kernel_rfl⟩ rfl (by omega) (by omega) (by omega)) <| Qan (.agg (ints .u64 (nw3 (lev ((key.drop 16).take (32-16)))))) 157 #[.slice (some ⟨g2,0+16,none⟩) (32-16) (32-16)] 9 rfl kj kj ((QhA ((key.drop 16).take (32-16)) _ _ _ (Qea (l:=16) (h:=32) hkl r2_1 (by decide) (by decide) (by decide)) (by rw [List.length_take]; omega) (Qa4 (QaK hkb 16) _))) fun W2 e2=>?_
  have x2:=Ext.tr (Ext.tr (Rely.Ext.refl w) e1) e2
  refine Qas (ints .u64 ([0,0,0])) 221 3 rfl kj kj fun g4 W3 l4 e3 r4_3=>Qal g4 _ (ints .u64 (nw3 (lev ((key.drop 16).take (32-16))))) 221 r4_3 rfl kj (Qav 221 _ _ g4 221 _ _ r4_3 rfl kj kj (isz (n:=3) kj ((Qaf _ _).trans (Qa8 _))) (eqsz (n:=3) kj ((Qaf _ _).trans (Qa8 _))) (QaC _ _)) fun W4 p4 r4_4=>sgN hK3 <| wp_seq_k fun K5 hK5=>sgB kj <| wp_block <| wp_loop_rounds 5 ?_
  show Code.wp _ _ (Exit.then (Code.rounds _ _ _ 4) _) _ _
  refine sgB kj <| sgT kj <| wp_seq_k fun K9 hK9=>wp_block <| sgC fun K10 hK10=>Qaa (.int .i64 3) 13 rfl kj (QaH 216 _ _ .i64 .i64 ([3,7,11,15]) 0 4 3 3 rfl kj kj kj kj kj rfl (by decide) rfl) <| sg 1 kj <| sgN hK10 <| Qac <| sg 2 kj ?_
  have r2_2:=(Qab r2_1 e2)
  have r2_4:=(Puts.row p4 (Qab r2_2 e3) (Qag r2_2 l4))
  refine Qaa (.int .u8 (nth (key) 3)) 16 rfl kj (Qah 5 _ g2 3 23 _ (.int .u8 (nth (key) 3)) _ r2_4 rfl kj (QaJ _ _ _ (Nat.lt_of_lt_of_eq (by decide) hkl.symm)) kj) <| Qaa (.int .u8 (nth key 3%16)) 17 rfl kj (Qad (u:=.int .u8 (bits .and .u8 ((nth (key) 3)) (15))) kj (congrArg (Value.int .u8) (Qjm _ (Qa5 hkb 3)))) <| sg 1 kj <| Qal g2 _ (ints .u8 ((key).set 3 (nth key 3%16))) 23 r2_4 rfl kj (Qa1 5 _ _ g2 3 23 _ _ r2_4 rfl kj kj kj (Nat.lt_of_lt_of_eq (show 3<32 by decide) hkl.symm)) fun W5 p5 r2_5=>?_
  obtain ⟨c1_,ec1_⟩:∃ z,z=(key).set 3 (nth key 3%16):=⟨_,rfl⟩
  have hlc1_:c1_.length=32:=by rw [ec1_,List.length_set,hkl]
  have hxc1_:=Qa5 hkb 3
  have hbc1_:Qai c1_:=ec1_▸QaY hkb _ (by omega) (by omega)
  have r2_5_11:W5.heap[g2]? = some (.cells (ints .u8 (c1_)) 23):=QaI r2_5 (by rw [ec1_])
  refine Qae <| hK9 _ _ <| sgA kj ?_
  show Code.rounds _ _ _ 4 _ _
  show Code.wp _ _ (Exit.then (Code.rounds _ _ _ 3) _) _ _
  refine sgB kj <| sgT kj <| wp_seq_k fun K14 hK14=>wp_block <| sgC fun K15 hK15=>Qaa (.int .i64 7) 13 rfl kj (QaH 216 _ _ .i64 .i64 ([3,7,11,15]) 1 4 3 7 rfl kj kj kj kj kj rfl (by decide) rfl) <| sg 1 kj <| sgN hK15 <| Qac <| sg 2 kj ?_
  refine Qaa (.int .u8 (nth (c1_) 7)) 16 rfl kj (Qah 5 _ g2 7 23 _ (.int .u8 (nth (c1_) 7)) _ r2_5_11 rfl kj (QaJ _ _ _ (Nat.lt_of_lt_of_eq (by decide) hlc1_.symm)) kj) <| Qaa (.int .u8 (nth c1_ 7%16)) 17 rfl kj (Qad (u:=.int .u8 (bits .and .u8 ((nth (c1_) 7)) (15))) kj (congrArg (Value.int .u8) (Qjm _ (Qa5 hbc1_ 7)))) <| sg 1 kj <| Qal g2 _ (ints .u8 ((c1_).set 7 (nth c1_ 7%16))) 23 r2_5_11 rfl kj (Qa1 5 _ _ g2 7 23 _ _ r2_5_11 rfl kj kj kj (Nat.lt_of_lt_of_eq (show 7<32 by decide) hlc1_.symm)) fun W6 p6 r2_6=>?_
  obtain ⟨c2_,ec2_⟩:∃ z,z=(c1_).set 7 (nth c1_ 7%16):=⟨_,rfl⟩
  have hlc2_:c2_.length=32:=by rw [ec2_,List.length_set,hlc1_]
  have hxc2_:=Qa5 hbc1_ 7
  have hbc2_:Qai c2_:=ec2_▸QaY hbc1_ _ (by omega) (by omega)
  have r2_6_16:W6.heap[g2]? = some (.cells (ints .u8 (c2_)) 23):=QaI r2_6 (by rw [ec2_])
  refine Qae <| hK14 _ _ <| sgA kj ?_
  show Code.rounds _ _ _ 3 _ _
  show Code.wp _ _ (Exit.then (Code.rounds _ _ _ 2) _) _ _
  refine sgB kj <| sgT kj <| wp_seq_k fun K19 hK19=>wp_block <| sgC fun K20 hK20=>Qaa (.int .i64 11) 13 rfl kj (QaH 216 _ _ .i64 .i64 ([3,7,11,15]) 2 4 3 11 rfl kj kj kj kj kj rfl (by decide) rfl) <| sg 1 kj <| sgN hK20 <| Qac <| sg 2 kj ?_
  refine Qaa (.int .u8 (nth (c2_) 11)) 16 rfl kj (Qah 5 _ g2 11 23 _ (.int .u8 (nth (c2_) 11)) _ r2_6_16 rfl kj (QaJ _ _ _ (Nat.lt_of_lt_of_eq (by decide) hlc2_.symm)) kj) <| Qaa (.int .u8 (nth c2_ 11%16)) 17 rfl kj (Qad (u:=.int .u8 (bits .and .u8 ((nth (c2_) 11)) (15))) kj (congrArg (Value.int .u8) (Qjm _ (Qa5 hbc2_ 11)))) <| sg 1 kj <| Qal g2 _ (ints .u8 ((c2_).set 11 (nth c2_ 11%16))) 23 r2_6_16 rfl kj (Qa1 5 _ _ g2 11 23 _ _ r2_6_16 rfl kj kj kj (Nat.lt_of_lt_of_eq (show 11<32 by decide) hlc2_.symm)) fun W7 p7 r2_7=>?_
  obtain ⟨c3_,ec3_⟩:∃ z,z=(c2_).set 11 (nth c2_ 11%16):=⟨_,rfl⟩
  have hlc3_:c3_.length=32:=by rw [ec3_,List.length_set,hlc2_]
  have hxc3_:=Qa5 hbc2_ 11
  have hbc3_:Qai c3_:=ec3_▸QaY hbc2_ _ (by omega) (by omega)
  have r2_7_21:W7.heap[g2]? = some (.cells (ints .u8 (c3_)) 23):=QaI r2_7 (by rw [ec3_])
  refine Qae <| hK19 _ _ <| sgA kj ?_
  show Code.rounds _ _ _ 2 _ _
  show Code.wp _ _ (Exit.then (Code.rounds _ _ _ 1) _) _ _
  refine sgB kj <| sgT kj <| wp_seq_k fun K24 hK24=>wp_block <| sgC fun K25 hK25=>Qaa (.int .i64 15) 13 rfl kj (QaH 216 _ _ .i64 .i64 ([3,7,11,15]) 3 4 3 15 rfl kj kj kj kj kj rfl (by decide) rfl) <| sg 1 kj <| sgN hK25 <| Qac <| sg 2 kj ?_
  refine Qaa (.int .u8 (nth (c3_) 15)) 16 rfl kj (Qah 5 _ g2 15 23 _ (.int .u8 (nth (c3_) 15)) _ r2_7_21 rfl kj (QaJ _ _ _ (Nat.lt_of_lt_of_eq (by decide) hlc3_.symm)) kj) <| Qaa (.int .u8 (nth c3_ 15%16)) 17 rfl kj (Qad (u:=.int .u8 (bits .and .u8 ((nth (c3_) 15)) (15))) kj (congrArg (Value.int .u8) (Qjm _ (Qa5 hbc3_ 15)))) <| sg 1 kj <| Qal g2 _ (ints .u8 ((c3_).set 15 (nth c3_ 15%16))) 23 r2_7_21 rfl kj (Qa1 5 _ _ g2 15 23 _ _ r2_7_21 rfl kj kj kj (Nat.lt_of_lt_of_eq (show 15<32 by decide) hlc3_.symm)) fun W8 p8 r2_8=>?_
  obtain ⟨c4_,ec4_⟩:∃ z,z=(c3_).set 15 (nth c3_ 15%16):=⟨_,rfl⟩
  have hlc4_:c4_.length=32:=by rw [ec4_,List.length_set,hlc3_]
  have hxc4_:=Qa5 hbc3_ 15
  have hbc4_:Qai c4_:=ec4_▸QaY hbc3_ _ (by omega) (by omega)
  have r2_8_26:W8.heap[g2]? = some (.cells (ints .u8 (c4_)) 23):=QaI r2_8 (by rw [ec4_])
  refine Qae <| hK24 _ _ <| sgA kj ?_
  show Code.rounds _ _ _ 1 _ _
  show Code.wp _ _ (Exit.then (Code.rounds _ _ _ 0) _) _ _
  refine sgB kj <| wp_seq_k fun K28 hK28=>cond_false kj <| wp_exit <| hK5 _ _ <| wp_seq_k fun K29 hK29=>sgB kj <| wp_block <| wp_loop_rounds 4 ?_
  show Code.wp _ _ (Exit.then (Code.rounds _ _ _ 3) _) _ _
  refine sgB kj <| sgT kj <| wp_seq_k fun K33 hK33=>wp_block <| sgC fun K34 hK34=>Qaa (.int .i64 4) 23 rfl kj (QaH 223 _ _ .i64 .i64 ([4,8,12]) 0 3 3 4 rfl kj kj kj kj kj rfl (by decide) rfl) <| sg 1 kj <| sgN hK34 <| Qac <| sg 2 kj ?_
  refine Qaa (.int .u8 (nth (c4_) 4)) 26 rfl kj (Qah 5 _ g2 4 23 _ (.int .u8 (nth (c4_) 4)) _ r2_8_26 rfl kj (QaJ _ _ _ (Nat.lt_of_lt_of_eq (by decide) hlc4_.symm)) kj) <| Qaa (.int .u8 (nth c4_ 4/4*4)) 27 rfl kj (Qad (u:=.int .u8 (bits .and .u8 ((nth (c4_) 4)) (252))) kj (congrArg (Value.int .u8) (Qi5 _ (Qa5 hbc4_ 4)))) <| sg 1 kj <| Qal g2 _ (ints .u8 ((c4_).set 4 (nth c4_ 4/4*4))) 23 r2_8_26 rfl kj (Qa1 5 _ _ g2 4 23 _ _ r2_8_26 rfl kj kj kj (Nat.lt_of_lt_of_eq (show 4<32 by decide) hlc4_.symm)) fun W9 p9 r2_9=>?_
  obtain ⟨c5_,ec5_⟩:∃ z,z=(c4_).set 4 (nth c4_ 4/4*4):=⟨_,rfl⟩
  have hlc5_:c5_.length=32:=by rw [ec5_,List.length_set,hlc4_]
  have hxc5_:=Qa5 hbc4_ 4
  have hbc5_:Qai c5_:=ec5_▸QaY hbc4_ _ (by omega) (by omega)
  have r2_9_35:W9.heap[g2]? = some (.cells (ints .u8 (c5_)) 23):=QaI r2_9 (by rw [ec5_])
  refine Qae <| hK33 _ _ <| sgA kj ?_
  show Code.rounds _ _ _ 3 _ _
  show Code.wp _ _ (Exit.then (Code.rounds _ _ _ 2) _) _ _
  refine sgB kj <| sgT kj <| wp_seq_k fun K38 hK38=>wp_block <| sgC fun K39 hK39=>Qaa (.int .i64 8) 23 rfl kj (QaH 223 _ _ .i64 .i64 ([4,8,12]) 1 3 3 8 rfl kj kj kj kj kj rfl (by decide) rfl) <| sg 1 kj <| sgN hK39 <| Qac <| sg 2 kj ?_
  refine Qaa (.int .u8 (nth (c5_) 8)) 26 rfl kj (Qah 5 _ g2 8 23 _ (.int .u8 (nth (c5_) 8)) _ r2_9_35 rfl kj (QaJ _ _ _ (Nat.lt_of_lt_of_eq (by decide) hlc5_.symm)) kj) <| Qaa (.int .u8 (nth c5_ 8/4*4)) 27 rfl kj (Qad (u:=.int .u8 (bits .and .u8 ((nth (c5_) 8)) (252))) kj (congrArg (Value.int .u8) (Qi5 _ (Qa5 hbc5_ 8)))) <| sg 1 kj <| Qal g2 _ (ints .u8 ((c5_).set 8 (nth c5_ 8/4*4))) 23 r2_9_35 rfl kj (Qa1 5 _ _ g2 8 23 _ _ r2_9_35 rfl kj kj kj (Nat.lt_of_lt_of_eq (show 8<32 by decide) hlc5_.symm)) fun W10 p10 r2_10=>?_
  obtain ⟨c6_,ec6_⟩:∃ z,z=(c5_).set 8 (nth c5_ 8/4*4):=⟨_,rfl⟩
  have hlc6_:c6_.length=32:=by rw [ec6_,List.length_set,hlc5_]
  have hxc6_:=Qa5 hbc5_ 8
  have hbc6_:Qai c6_:=ec6_▸QaY hbc5_ _ (by omega) (by omega)
  have r2_10_40:W10.heap[g2]? = some (.cells (ints .u8 (c6_)) 23):=QaI r2_10 (by rw [ec6_])
  refine Qae <| hK38 _ _ <| sgA kj ?_
  show Code.rounds _ _ _ 2 _ _
  show Code.wp _ _ (Exit.then (Code.rounds _ _ _ 1) _) _ _
  refine sgB kj <| sgT kj <| wp_seq_k fun K43 hK43=>wp_block <| sgC fun K44 hK44=>Qaa (.int .i64 12) 23 rfl kj (QaH 223 _ _ .i64 .i64 ([4,8,12]) 2 3 3 12 rfl kj kj kj kj kj rfl (by decide) rfl) <| sg 1 kj <| sgN hK44 <| Qac <| sg 2 kj ?_
  refine Qaa (.int .u8 (nth (c6_) 12)) 26 rfl kj (Qah 5 _ g2 12 23 _ (.int .u8 (nth (c6_) 12)) _ r2_10_40 rfl kj (QaJ _ _ _ (Nat.lt_of_lt_of_eq (by decide) hlc6_.symm)) kj) <| Qaa (.int .u8 (nth c6_ 12/4*4)) 27 rfl kj (Qad (u:=.int .u8 (bits .and .u8 ((nth (c6_) 12)) (252))) kj (congrArg (Value.int .u8) (Qi5 _ (Qa5 hbc6_ 12)))) <| sg 1 kj <| Qal g2 _ (ints .u8 ((c6_).set 12 (nth c6_ 12/4*4))) 23 r2_10_40 rfl kj (Qa1 5 _ _ g2 12 23 _ _ r2_10_40 rfl kj kj kj (Nat.lt_of_lt_of_eq (show 12<32 by decide) hlc6_.symm)) fun W11 p11 r2_11=>?_
  obtain ⟨c7_,ec7_⟩:∃ z,z=(c6_).set 12 (nth c6_ 12/4*4):=⟨_,rfl⟩
  have hlc7_:c7_.length=32:=by rw [ec7_,List.length_set,hlc6_]
  have hxc7_:=Qa5 hbc6_ 12
  have hbc7_:Qai c7_:=ec7_▸QaY hbc6_ _ (by omega) (by omega)
  have r2_11_45:W11.heap[g2]? = some (.cells (ints .u8 (c7_)) 23):=QaI r2_11 (by rw [ec7_])
  refine Qae <| hK43 _ _ <| sgA kj ?_
  show Code.rounds _ _ _ 1 _ _
  show Code.wp _ _ (Exit.then (Code.rounds _ _ _ 0) _) _ _
  refine sgB kj <| wp_seq_k fun K47 hK47=>cond_false kj <| wp_exit <| hK29 _ _ <| wp_seq_k fun K48 hK48=>?_
  have hck:c7_=Qix key:=by unfold Qix; rw [ec7_,ec6_,ec5_,ec4_,ec3_,ec2_,ec1_]
  have hro:lev ((c7_.drop 0).take (16-0))=rOf key:=by unfold rOf; rw [hck,Qgs key hkl]
  refine QaL 3 [⟨none,[(1,none)]⟩,⟨none,[(30,some 0)]⟩,⟨none,[(3,none)]⟩] kj kj fun F hF=>Qay (Qaj _) (.slice (some ⟨g2,0+0,none⟩) (16-0) (32-0)) kj kj (fun W=>(QbA 23 _ _ _ 0 16 32 g2 0 5 rfl kj kj kj rfl ⟨.i64,by kernel_rfl⟩ (by omega) (by omega) (by omega))) <| Qiw (Qaj _) (.agg (ints .u64 (nw3 (lev ((c7_.drop 0).take (16-0)))))) 157 #[.slice (some ⟨g2,0+0,none⟩) (16-0) (32-0)] kj kj (fun W=>by kernel_rfl) (fun W hR=>(QhA ((c7_.drop 0).take (16-0)) _ _ W (Qea (l:=0) (h:=16) hlc7_ (Qab (Qab r2_11_45 (Qak _)) hR) (by decide) (by decide) (by decide)) (by rw [List.length_take]; omega) (Qa4 (QaK hbc7_ 0) _))) ?_
  refine Qbi (Qaj _) (.agg (ints .u64 (nw3 (lev ((key.drop 16).take (32-16)))))) kj kj (fun W hR=>(Qao 221 _ g4 221 _ _ (Qab (Qab (Puts.row p11 (Puts.row p10 (Puts.row p9 (Puts.row p8 (Puts.row p7 (Puts.row p6 (Puts.row p5 r4_4 (QaA r2_2 l4)) (QaA r2_2 l4)) (QaA r2_2 l4)) (QaA r2_2 l4)) (QaA r2_2 l4)) (QaA r2_2 l4)) (QaA r2_2 l4)) (Qak _)) hR) rfl kj kj (isz (n:=3) kj ((Qaf _ _).trans (Qa8 _))))) <| Qck (hF _ fun W12 e12=>?_)
  simp only [List.nil_append,List.cons_append,List.take_succ_cons,List.take_zero,List.drop_succ_cons,List.drop_zero,finE,up]
  clear hF
  have x12:=Ext.tr (Puts.ext p11 (Puts.ext p10 (Puts.ext p9 (Puts.ext p8 (Puts.ext p7 (Puts.ext p6 (Puts.ext p5 (Puts.ext p4 (Ext.tr x2 e3) (qT x2.size l4)) b2) b2) b2) b2) b2) b2) b2) e12
  refine sg 1 kj <| Qas (cat [ints .u64 (nw3 (lev ((c7_.drop 0).take (16-0)))),ints .u64 (nw3 (lev ((key.drop 16).take (32-16)))),ints .u64 (nw3 (0)),ints .u8 (List.replicate 17 0),#[.int .i64 0]]) 226 34 rfl kj kj fun g49 W13 l49 e13 r49_13=>sg 1 kj <| sgN hK48 <| wp_ret ?_
  repeat (first | with_reducible refine goR1 ?_ | with_reducible refine goR2 ?_)
  exact (show bodyPost _ _ _ .ret _ _ from ret1 (.pointer (some ⟨g49,0,none⟩)) rfl (Qaq kj) ⟨_,rfl,(Ext.tr x12 e13),g49,rfl,(qT x12.size l49),0,List.replicate 17 0,0,0,rfl,(by decide),(by have h9:=r49_13; rw [hro] at h9; exact h9),rfl,⟨by decide,by decide⟩,List.length_replicate ..,(fun x hx=>by rw [List.mem_replicate] at hx; omega),rfl⟩)
set_option maxRecDepth 100000 in
theorem endC (g : Nat) (r s:Int) (t:List Int) (w:World) (hr:0≤r∧r<21267647932558653966460912964485513216) (hs:0≤s∧s<340282366920938463463374607431768211456) (hM:Mk g r s t w) :
  Calls Tryd.prog 144 #[.pointer (some ⟨g,0,none⟩)] w (fun e W=>e=.returned (.agg (ints .u8 (tagV r s t)))∧ExtB g w W):=by
 obtain ⟨S,pl,q,m,hq,hm,hg,hSm,hS,hpl,hpb,hpt⟩:=hM
 refine enter 47 [(0,.pointer (some ⟨g,0,none⟩))] Tryd.func144 rfl rfl kj rfl <| sgC fun K2 hK2=>Qas (ints .u8 (List.replicate 16 0)) 157 2 rfl kj kj fun g3 W1 l3 e1 r3_1=>?_
 have x1:=ExtB.ext (ExtB.refl g w) e1
 have b3:=qT (ExtB.refl g w).size l3
 refine sgN hK2 <| wp_seq_k fun K4 hK4=>sgC fun K5 hK5=>sg 3 kj ?_
 have r1_1:=(Qab hg e1)
 refine Qaa (.int .i64 ((m:Nat):Int)) 10 rfl kj (Qah 3 _ g 26 226 _ (.int .i64 ((m:Nat):Int)) _ r1_1 rfl kj (QaQ [ints .u64 (nw3 r),ints .u64 (nw3 s),ints .u64 (nw3 (S)),ints .u8 (pl)] [#[.int .i64 ((m:Nat):Int)]] [] 26 (by rw [Qar,Qar,Qar,Qar]; simp only [qS,cat,((Qaf _ _).trans (Qa8 _)),((Qaf _ _).trans hpl)]; rfl) 0 _ rfl) kj) ?_
 refine sg 1 kj <| sgN hK5 <| Qa7 (t:=decide (((m:Nat):Int)>0)) kj (fun c6=>?_) (fun c6=>?_)
 ·skip
  have hm0:0<m:=by have:=of_decide_eq_true c6; omega
  refine Qac <| sg 1 kj <| Qat (fun v W'=>v=.tuple #[]∧ExtB g W1 W'∧W'.heap[g]? = some (.cells (cat [ints .u64 (nw3 r),ints .u64 (nw3 s),ints .u64 (nw3 (Qez r S (pl.take m))),ints .u8 (pl.set m 1),#[.int .i64 0]]) 226)) 158 #[.pointer (some ⟨g,0,none⟩)] 13 rfl kj kj ((Qk3 g r s S pl m _ hr hS hpl hpb (by omega) r1_1).mono fun e w' h=>⟨_,h.1,rfl,h.2⟩) fun v W2 h=>?_
  obtain ⟨rfl,q2,r1_2⟩:=h
  have hpl2:(pl.set m 1).length=17:=by rw [List.length_set,hpl]
  have x2:=ExtB.trans x1 q2
  obtain ⟨SS,eSS⟩:∃ z,z=Qez r S (pl.take m):=⟨_,rfl⟩
  have hSS:SS%PP=Qdj r t:=by rw [eSS,hpt]; exact Qlb hq (by omega) hm hSm
  have hSb:0≤SS∧SS<2041694201525630780780247644590609268736:=eSS▸Qgx hS hr (Qa4 hpb m) (by rw [List.length_take]; omega)
  rw [←eSS] at r1_2
  refine Qae <| hK4 _ _ <| sgC fun K7 hK7=>sg 3 kj <| Qaa (.agg (ints .u64 (nw3 (SS)))) 17 rfl kj (QaS 221 _ g 6 226 _ _ _ r1_2 rfl kj (QaQ [ints .u64 (nw3 r),ints .u64 (nw3 s)] [ints .u64 (nw3 (SS))] [ints .u8 (pl.set m 1),#[.int .i64 0]] 6 (by rw [Qar,Qar]; simp only [qS,cat,((Qaf _ _).trans (Qa8 _))]; rfl)) kj (isz (n:=3) kj ((Qaf _ _).trans (Qa8 _)))) ?_
  refine Qas (ints .u64 ([0,0,0])) 221 3 rfl kj kj fun g8 W3 l8 e3 r8_3=>?_
  have x3:=ExtB.ext x2 e3
  have b8:=qT x2.size l8
  refine Qal g8 _ (ints .u64 (nw3 (SS))) 221 r8_3 rfl kj (Qav 221 _ _ g8 221 _ _ r8_3 rfl kj kj (isz (n:=3) kj ((Qaf _ _).trans (Qa8 _))) (eqsz (n:=3) kj ((Qaf _ _).trans (Qa8 _))) (QaC _ _)) fun W4 p4 r8_4=>?_
  have x4:=ExtB.putsN x3 p4 b8
  refine sgN hK7 <| wp_seq_k fun K9 hK9=>sgC fun K10 hK10=>Qaa (.agg (ints .u64 (nw3 (SS)))) 18 rfl kj (Qao 221 _ g8 221 _ _ r8_4 rfl kj kj (isz (n:=3) kj ((Qaf _ _).trans (Qa8 _)))) <| sg 1 kj <| Qan (.agg (ints .u64 (nw3 (SS+5)))) 159 #[.agg (ints .u64 (nw3 (SS))),.agg (ints .u64 (nw3 5))] 20 rfl kj kj ((Qgg SS 5 hSb.1 (by decide) (by omega) (by decide) (by omega)) _) fun W5 e5=>?_
  have x5:=ExtB.ext x4 e5
  refine Qas (ints .u64 ([0,0,0])) 221 4 rfl kj kj fun g11 W6 l11 e6 r11_6=>?_
  have x6:=ExtB.ext x5 e6
  refine Qal g11 _ (ints .u64 (nw3 (SS+5))) 221 r11_6 rfl kj (Qav 221 _ _ g11 221 _ _ r11_6 rfl kj kj (isz (n:=3) kj ((Qaf _ _).trans (Qa8 _))) (eqsz (n:=3) kj ((Qaf _ _).trans (Qa8 _))) (QaC _ _)) fun W7 p7 r11_7=>?_
  have x7:=ExtB.putsN x6 p7 (qT x5.size l11)
  refine sgN hK10 <| sgC fun K12 hK12=>sg 1 kj <| Qaa (.int .u64 (nth (nw3 (SS+5)) 2)) 22 rfl kj (Qah 129 _ g11 2 221 _ (.int .u64 (nth (nw3 (SS+5)) 2)) _ r11_7 rfl kj (QaJ _ _ _ (Nat.lt_of_lt_of_eq (by decide) (Qa8 _).symm)) kj) <| Qaa (.bool (decide (1361129467683753853853498429727072845824≤SS+5))) 23 rfl kj (Qad (u:=.bool (decide ((nth (nw3 (SS+5)) 2)≥4))) kj (congrArg Value.bool (geq4 SS hSb.1 hSb.2))) <| sgN hK12 <| Qa7 (t:=decide (1361129467683753853853498429727072845824≤SS+5)) kj (fun c13=>?_) (fun c13=>?_)
  ·skip
   have hbig:1361129467683753853853498429727072845824≤SS+5:=of_decide_eq_true c13
   have hfin:by16 (SS+5+s)=by16 (Qdj r t+s):=by
    have e:SS+5+s=(Qdj r t+s)+1361129467683753853853498429727072845824:=by rw [←hSS]; unfold PP; omega
    rw [e,QgX]
   refine Qac <| Qaa (.agg (ints .u64 (nw3 (SS+5)))) 24 rfl kj (Qao 221 _ g11 221 _ _ r11_7 rfl kj kj (isz (n:=3) kj ((Qaf _ _).trans (Qa8 _)))) ?_
   have r8_5:=(Qab r8_4 e5)
   have r8_6:=(Qab r8_5 e6)
   have r8_7:=(Puts.row p7 r8_6 (Qag r8_5 l11))
   refine Qal g8 _ (ints .u64 (nw3 (SS+5))) 221 r8_7 rfl kj (Qav 221 _ _ g8 221 _ _ r8_7 rfl kj kj (isz (n:=3) kj ((Qaf _ _).trans (Qa8 _))) (eqsz (n:=3) ((Qaf _ _).trans (Qa8 _)) ((Qaf _ _).trans (Qa8 _))) (QaC _ _)) fun W8 p8 r8_8=>?_
   have x8:=ExtB.putsN x7 p8 b8
   refine Qae <| hK9 _ _ <| wp_seq_k fun K14 hK14=>QaX 6 [⟨none,[(3,none)]⟩,⟨none,[(0,none)]⟩,⟨none,[(26,some 1)]⟩,⟨none,[(27,some 2)]⟩,⟨none,[(28,some 3)]⟩,⟨none,[(25,some 0),(29,some 4)]⟩] kj kj fun F hF=>QaN (.agg (ints .u64 (nw3 (SS+5)))) kj kj (fun W hR=>(Qao 221 _ g8 221 _ _ (Qab (Qab r8_8 (Qak _)) hR) rfl kj kj (isz (n:=3) kj ((Qaf _ _).trans (Qa8 _))))) <| Qam (.pointer (some ⟨g,0,none⟩)) kj kj (fun W=>by kernel_rfl) <| Qam (.pointer (some ⟨g,0,none⟩)) kj kj (fun W=>by kernel_rfl) <| Qam (.pointer (some ⟨g,3,none⟩)) kj kj (fun W=>by kernel_rfl) ?_
   have r1_3:=(Qab r1_2 e3)
   have r1_4:=(Puts.row p4 r1_3 (Qag r1_2 l8))
   have r1_5:=(Qab r1_4 e5)
   have r1_6:=(Qab r1_5 e6)
   have r1_7:=(Puts.row p7 r1_6 (Qag r1_5 l11))
   refine QaN (.agg (ints .u64 (nw3 s))) kj kj (fun W hR=>(QaS 221 _ g 3 226 _ _ _ (Qab (Qab (Puts.row p8 r1_7 (Qag r1_2 l8)) (Qak _)) hR) rfl kj (QaQ [ints .u64 (nw3 r)] [ints .u64 (nw3 s)] [ints .u64 (nw3 (SS)),ints .u8 (pl.set m 1),#[.int .i64 0]] 3 ((Qaf _ _).trans (Qa8 _))) kj (isz (n:=3) kj ((Qaf _ _).trans (Qa8 _))))) <| Qch (.agg (ints .u64 (nw3 (SS+5+s)))) 159 #[.agg (ints .u64 (nw3 (SS+5))),.agg (ints .u64 (nw3 s))] kj kj (fun W=>by kernel_rfl) (fun W hR=>(Qgg (SS+5) s (by omega) hs.1 (by omega) (by omega) (by omega)) W) <| Qbf (hF _ kj fun W9 e9=>?_)
   simp only [ups,up,Kn.val,List.take_succ_cons,List.take_zero,List.drop_succ_cons,List.drop_zero,List.nil_append,List.cons_append]
   clear hF
   have x9:=ExtB.ext x8 e9
   have r8_9:=(Qab r8_8 e9)
   refine Qal g8 _ (ints .u64 (nw3 (SS+5+s))) 221 r8_9 rfl kj (Qav 221 _ _ g8 221 _ _ r8_9 rfl kj kj (isz (n:=3) kj ((Qaf _ _).trans (Qa8 _))) (eqsz (n:=3) ((Qaf _ _).trans (Qa8 _)) ((Qaf _ _).trans (Qa8 _))) (QaC _ _)) fun W10 p10 r8_10=>?_
   have x10:=ExtB.putsN x9 p10 b8
   refine sgN hK14 <| sgC fun K15 hK15=>Qas (ints .u8 (List.replicate 16 0)) 157 5 rfl kj kj fun g16 W11 l16 e11 r16_11=>?_
   have x11:=ExtB.ext x10 e11
   refine sgN hK15 <| wp_seq_k fun K17 hK17=>sgB kj <| wp_block <| QaB (fun (s1:Nat)=>[(2,.pointer (some ⟨g3,0,none⟩)),(3,.pointer (some ⟨g8,0,none⟩)),(5,.pointer (some ⟨g16,0,none⟩)),(31,.int .i64 ((s1:Nat):Int))]) (fun (s1:Nat) W=>(s1≤16)∧(W.heap[g16]? = some (.cells (ints .u8 (Qbo (by16 (SS+5+s)) 16 s1)) 157))∧(Qa2 [g16] W11 W)∧(ExtB g w W)) (fun (s1:Nat)=>16-s1) 0 ⟨kj,kj,kj,kj,trivial⟩ ⟨(Nat.zero_le _),(QaI r16_11 (Qb1 _ 16)),(Qa2.refl [g16] W11),x11⟩ fun s1 X1 V1 hI1=>?_
   obtain ⟨i,hs1⟩:∃ z,z=s1:=⟨_,rfl⟩
   subst hs1
   obtain ⟨hi,q16_1,kk1,xx1⟩:=hI1
   replace hi:i≤16:=hi
   replace q16_1:V1.heap[g16]? = some (.cells (ints .u8 (Qbo (by16 (SS+5+s)) 16 i)) 157):=q16_1
   replace kk1:Qa2 [g16] W11 V1:=kk1
   replace xx1:ExtB g w V1:=xx1
   have q12:=kk1
   refine sgB kj <| wp_seq_k fun K20 hK20=>Qa7 (t:=decide (((i:Nat):Int)<16)) kj (fun c21=>?_) (fun c21=>?_)
   ·skip
    have hlt32:i<16:=by have:=of_decide_eq_true c21; omega
    refine wp_skip <| hK20 _ _ <| wp_seq_k fun K22 hK22=>wp_block <| sgB kj <| Qac <| sg 2 kj <| Qaa (.int .i64 ((i/8:Nat):Int)) 36 rfl kj (Qad (u:=.int .i64 (IntKind.i64.wrap (Int.tdiv (((i:Nat):Int)) (8)))) kj (congrArg (Value.int .i64) (Qcu _ 8 (by omega)))) <| Qaa (.pointer (some ⟨g8,i/8,none⟩)) 37 rfl kj (QaG _ _ _ .i64 (i/8) _ 3 129 rfl kj kj kj kj (by omega)) ?_
    have r8_11:=(Qab r8_10 e11)
    refine Qaa (.int .u64 (nth (nw3 (SS+5+s)) (i/8))) 38 rfl kj (Qah 129 _ g8 (i/8) 221 _ (.int .u64 (nth (nw3 (SS+5+s)) (i/8))) _ (Qa2.row q12 r8_11 (QaU (Qag r8_10 l16) Qbt)) rfl kj (QaJ _ _ _ (Nat.lt_of_lt_of_eq (by omega) (Qa8 _).symm)) kj) <| sg 1 kj <| Qaa (.int .i64 ((i%8:Nat):Int)) 40 rfl kj (Qad (u:=.int .i64 (Int.tmod (((i:Nat):Int)) (8))) kj (congrArg (Value.int .i64) (Qcg _ 8))) <| Qaa (.int .i64 ((8*(i%8):Nat):Int)) 41 rfl kj (Qad (u:=.int .i64 (IntKind.i64.wrap (8*((i%8:Nat):Int)))) kj (congrArg (Value.int .i64) (i64n _ _ (by omega) (by omega)))) <| Qaa (.int .u64 (nth (nw3 (SS+5+s)) (i/8)/p256 (i%8))) 42 rfl kj (QaP .shr _ _ _ _ .u64 .i64 _ _ _ rfl kj kj (Qdk _ _ _ _ _ _ (by omega) (shr8 _ (i%8) _ rfl (by omega)))) <| Qaa (.int .u8 (nth (by16 (SS+5+s)) i)) 43 rfl kj (Qad (u:=.int .u8 (IntKind.u8.wrap (nth (nw3 (SS+5+s)) (i/8)/p256 (i%8)))) kj (congrArg (Value.int .u8) (Qeu _ i hlt32))) <| Qaa (.pointer (some ⟨g16,i,none⟩)) 44 rfl kj (QaG _ _ _ .i64 (i) _ 16 5 rfl kj kj kj kj (by omega)) <| Qal g16 _ (ints .u8 ((Qbo (by16 (SS+5+s)) 16 i).set i (nth (by16 (SS+5+s)) i))) 157 q16_1 rfl kj (Qa1 5 _ _ g16 i 157 _ _ q16_1 rfl kj kj kj (Nat.lt_of_lt_of_eq (by omega) (Qb5 _ 16 _ (Qa6 _) hi).symm)) fun W13 p13 r16_13=>?_
    have x13:=ExtB.putsN xx1 p13 (qT x10.size l16)
    refine Qae <| hK22 _ _ <| Qac <| Qaa (.int .i64 ((i+1:Nat):Int)) 45 rfl kj (Qad (u:=.int .i64 (IntKind.i64.wrap (((i:Nat):Int)+1))) kj (congrArg (Value.int .i64) (i64n _ _ (by omega) (by omega)))) <| sg 1 kj <| Qae ?_
    repeat (first | with_reducible refine goX1 ?_ | with_reducible refine goX2 ?_ | with_reducible refine goX3 ?_)
    exact Qax (i+1) ⟨kj,kj,kj,kj,trivial⟩ ⟨(show i+1≤16 by omega),(QaI r16_13 (Qb2 _ 16 i (Qa6 _) hlt32)),(Qa2.puts q12 p13 (.inl (by simp))),x13⟩ (by show 16-(i+1)<16-i; omega)
   ·skip
    have heq32:i=16:=by have:=of_decide_eq_false c21; omega
    subst heq32
    have r16_12_24:V1.heap[g16]? = some (.cells (ints .u8 (by16 (SS+5+s))) 157):=QaI q16_1 (QbJ _ 16 (Qa6 _))
    refine wp_exit <| hK17 _ _ <| sgC fun K25 hK25=>Qaa (.agg (ints .u8 (by16 (SS+5+s)))) 46 rfl kj (Qao 157 _ g16 157 _ _ r16_12_24 rfl kj kj (isz (n:=16) kj ((Qaf _ _).trans (Qa6 _)))) ?_
    have r3_2:=(ExtB.row q2 r3_1 (QaA hg l3))
    have r3_3:=(Qab r3_2 e3)
    have r3_4:=(Puts.row p4 r3_3 (Qag r3_2 l8))
    have r3_5:=(Qab r3_4 e5)
    have r3_6:=(Qab r3_5 e6)
    have r3_7:=(Puts.row p7 r3_6 (Qag r3_5 l11))
    have r3_8:=(Puts.row p8 r3_7 (Qag r3_2 l8))
    have r3_9:=(Qab r3_8 e9)
    have r3_10:=(Puts.row p10 r3_9 (Qag r3_2 l8))
    have r3_11:=(Qab r3_10 e11)
    have r3_12:=(Qa2.row q12 r3_11 (QaU (Qag r3_10 l16) Qbt))
    refine Qal g3 _ (ints .u8 (by16 (SS+5+s))) 157 r3_12 rfl kj (Qav 157 _ _ g3 157 _ _ r3_12 rfl kj kj (isz (n:=16) kj ((Qaf _ _).trans (Qa6 _))) (eqsz (n:=16) ((Qaf _ _).trans (List.length_replicate (n:=16))) ((Qaf _ _).trans (Qa6 _))) (QaC _ _)) fun W13 p13 r3_13=>?_
    have x13:=ExtB.putsN xx1 p13 b3
    refine sgN hK25 <| wp_ret ?_
    repeat (first | with_reducible refine goR1 ?_ | with_reducible refine goR2 ?_)
    exact (show bodyPost _ _ _ .ret _ _ from ret1 (.agg (ints .u8 (by16 (SS+5+s)))) rfl (Qbq g3 157 _ r3_13 kj kj (isz (n:=16) kj ((Qaf _ _).trans (Qa6 _)))) ⟨by unfold tagV; rw [hfin],x13⟩)
  ·skip
   have hbig:¬ 1361129467683753853853498429727072845824≤SS+5:=of_decide_eq_false c13
   have hfin:by16 (SS+s)=by16 (Qdj r t+s):=by
    have e:SS+s=Qdj r t+s:=by rw [←hSS]; unfold PP; omega
    rw [e]
   refine wp_skip <| hK9 _ _ <| wp_seq_k fun K26 hK26=>QaX 6 [⟨none,[(3,none)]⟩,⟨none,[(0,none)]⟩,⟨none,[(26,some 1)]⟩,⟨none,[(27,some 2)]⟩,⟨none,[(28,some 3)]⟩,⟨none,[(25,some 0),(29,some 4)]⟩] kj kj fun F hF=>?_
   have r8_5:=(Qab r8_4 e5)
   have r8_6:=(Qab r8_5 e6)
   have r8_7:=(Puts.row p7 r8_6 (Qag r8_5 l11))
   refine QaN (.agg (ints .u64 (nw3 (SS)))) kj kj (fun W hR=>(Qao 221 _ g8 221 _ _ (Qab (Qab r8_7 (Qak _)) hR) rfl kj kj (isz (n:=3) kj ((Qaf _ _).trans (Qa8 _))))) <| Qam (.pointer (some ⟨g,0,none⟩)) kj kj (fun W=>by kernel_rfl) <| Qam (.pointer (some ⟨g,0,none⟩)) kj kj (fun W=>by kernel_rfl) <| Qam (.pointer (some ⟨g,3,none⟩)) kj kj (fun W=>by kernel_rfl) ?_
   have r1_3:=(Qab r1_2 e3)
   have r1_4:=(Puts.row p4 r1_3 (Qag r1_2 l8))
   have r1_5:=(Qab r1_4 e5)
   have r1_6:=(Qab r1_5 e6)
   have r1_7:=(Puts.row p7 r1_6 (Qag r1_5 l11))
   refine QaN (.agg (ints .u64 (nw3 s))) kj kj (fun W hR=>(QaS 221 _ g 3 226 _ _ _ (Qab (Qab r1_7 (Qak _)) hR) rfl kj (QaQ [ints .u64 (nw3 r)] [ints .u64 (nw3 s)] [ints .u64 (nw3 (SS)),ints .u8 (pl.set m 1),#[.int .i64 0]] 3 ((Qaf _ _).trans (Qa8 _))) kj (isz (n:=3) kj ((Qaf _ _).trans (Qa8 _))))) <| Qch (.agg (ints .u64 (nw3 (SS+s)))) 159 #[.agg (ints .u64 (nw3 (SS))),.agg (ints .u64 (nw3 s))] kj kj (fun W=>by kernel_rfl) (fun W hR=>(Qgg (SS) s (by omega) hs.1 (by omega) (by omega) (by omega)) W) <| Qbf (hF _ kj fun W8 e8=>?_)
   simp only [ups,up,Kn.val,List.take_succ_cons,List.take_zero,List.drop_succ_cons,List.drop_zero,List.nil_append,List.cons_append]
   clear hF
   have x8:=ExtB.ext x7 e8
   have r8_8:=(Qab r8_7 e8)
   refine Qal g8 _ (ints .u64 (nw3 (SS+s))) 221 r8_8 rfl kj (Qav 221 _ _ g8 221 _ _ r8_8 rfl kj kj (isz (n:=3) kj ((Qaf _ _).trans (Qa8 _))) (eqsz (n:=3) ((Qaf _ _).trans (Qa8 _)) ((Qaf _ _).trans (Qa8 _))) (QaC _ _)) fun W9 p9 r8_9=>?_
   have x9:=ExtB.putsN x8 p9 b8
   refine sgN hK26 <| sgC fun K27 hK27=>Qas (ints .u8 (List.replicate 16 0)) 157 5 rfl kj kj fun g28 W10 l28 e10 r28_10=>?_
   have x10:=ExtB.ext x9 e10
   refine sgN hK27 <| wp_seq_k fun K29 hK29=>sgB kj <| wp_block <| QaB (fun (s2:Nat)=>[(2,.pointer (some ⟨g3,0,none⟩)),(3,.pointer (some ⟨g8,0,none⟩)),(5,.pointer (some ⟨g28,0,none⟩)),(31,.int .i64 ((s2:Nat):Int))]) (fun (s2:Nat) W=>(s2≤16)∧(W.heap[g28]? = some (.cells (ints .u8 (Qbo (by16 (SS+s)) 16 s2)) 157))∧(Qa2 [g28] W10 W)∧(ExtB g w W)) (fun (s2:Nat)=>16-s2) 0 ⟨kj,kj,kj,kj,trivial⟩ ⟨(Nat.zero_le _),(QaI r28_10 (Qb1 _ 16)),(Qa2.refl [g28] W10),x10⟩ fun s2 X2 V2 hI2=>?_
   obtain ⟨i,hs2⟩:∃ z,z=s2:=⟨_,rfl⟩
   subst hs2
   obtain ⟨hi,q28_2,kk2,xx2⟩:=hI2
   replace hi:i≤16:=hi
   replace q28_2:V2.heap[g28]? = some (.cells (ints .u8 (Qbo (by16 (SS+s)) 16 i)) 157):=q28_2
   replace kk2:Qa2 [g28] W10 V2:=kk2
   replace xx2:ExtB g w V2:=xx2
   have q11:=kk2
   refine sgB kj <| wp_seq_k fun K32 hK32=>Qa7 (t:=decide (((i:Nat):Int)<16)) kj (fun c33=>?_) (fun c33=>?_)
   ·skip
    have hlt32:i<16:=by have:=of_decide_eq_true c33; omega
    refine wp_skip <| hK32 _ _ <| wp_seq_k fun K34 hK34=>wp_block <| sgB kj <| Qac <| sg 2 kj <| Qaa (.int .i64 ((i/8:Nat):Int)) 36 rfl kj (Qad (u:=.int .i64 (IntKind.i64.wrap (Int.tdiv (((i:Nat):Int)) (8)))) kj (congrArg (Value.int .i64) (Qcu _ 8 (by omega)))) <| Qaa (.pointer (some ⟨g8,i/8,none⟩)) 37 rfl kj (QaG _ _ _ .i64 (i/8) _ 3 129 rfl kj kj kj kj (by omega)) ?_
    have r8_10:=(Qab r8_9 e10)
    have r8_11:=(Qa2.row q11 r8_10 (QaU (Qag r8_9 l28) Qbt))
    refine Qaa (.int .u64 (nth (nw3 (SS+s)) (i/8))) 38 rfl kj (Qah 129 _ g8 (i/8) 221 _ (.int .u64 (nth (nw3 (SS+s)) (i/8))) _ r8_11 rfl kj (QaJ _ _ _ (Nat.lt_of_lt_of_eq (by omega) (Qa8 _).symm)) kj) <| sg 1 kj <| Qaa (.int .i64 ((i%8:Nat):Int)) 40 rfl kj (Qad (u:=.int .i64 (Int.tmod (((i:Nat):Int)) (8))) kj (congrArg (Value.int .i64) (Qcg _ 8))) <| Qaa (.int .i64 ((8*(i%8):Nat):Int)) 41 rfl kj (Qad (u:=.int .i64 (IntKind.i64.wrap (8*((i%8:Nat):Int)))) kj (congrArg (Value.int .i64) (i64n _ _ (by omega) (by omega)))) <| Qaa (.int .u64 (nth (nw3 (SS+s)) (i/8)/p256 (i%8))) 42 rfl kj (QaP .shr _ _ _ _ .u64 .i64 _ _ _ rfl kj kj (Qdk _ _ _ _ _ _ (by omega) (shr8 _ (i%8) _ rfl (by omega)))) <| Qaa (.int .u8 (nth (by16 (SS+s)) i)) 43 rfl kj (Qad (u:=.int .u8 (IntKind.u8.wrap (nth (nw3 (SS+s)) (i/8)/p256 (i%8)))) kj (congrArg (Value.int .u8) (Qeu _ i hlt32))) <| Qaa (.pointer (some ⟨g28,i,none⟩)) 44 rfl kj (QaG _ _ _ .i64 (i) _ 16 5 rfl kj kj kj kj (by omega)) <| Qal g28 _ (ints .u8 ((Qbo (by16 (SS+s)) 16 i).set i (nth (by16 (SS+s)) i))) 157 q28_2 rfl kj (Qa1 5 _ _ g28 i 157 _ _ q28_2 rfl kj kj kj (Nat.lt_of_lt_of_eq (by omega) (Qb5 _ 16 _ (Qa6 _) hi).symm)) fun W12 p12 r28_12=>?_
    have x12:=ExtB.putsN xx2 p12 (qT x9.size l28)
    refine Qae <| hK34 _ _ <| Qac <| Qaa (.int .i64 ((i+1:Nat):Int)) 45 rfl kj (Qad (u:=.int .i64 (IntKind.i64.wrap (((i:Nat):Int)+1))) kj (congrArg (Value.int .i64) (i64n _ _ (by omega) (by omega)))) <| sg 1 kj <| Qae ?_
    repeat (first | with_reducible refine goX1 ?_ | with_reducible refine goX2 ?_ | with_reducible refine goX3 ?_)
    exact Qax (i+1) ⟨kj,kj,kj,kj,trivial⟩ ⟨(show i+1≤16 by omega),(QaI r28_12 (Qb2 _ 16 i (Qa6 _) hlt32)),(Qa2.puts q11 p12 (.inl (by simp))),x12⟩ (by show 16-(i+1)<16-i; omega)
   ·skip
    have heq32:i=16:=by have:=of_decide_eq_false c33; omega
    subst heq32
    have r28_11_36:V2.heap[g28]? = some (.cells (ints .u8 (by16 (SS+s))) 157):=QaI q28_2 (QbJ _ 16 (Qa6 _))
    refine wp_exit <| hK29 _ _ <| sgC fun K37 hK37=>Qaa (.agg (ints .u8 (by16 (SS+s)))) 46 rfl kj (Qao 157 _ g28 157 _ _ r28_11_36 rfl kj kj (isz (n:=16) kj ((Qaf _ _).trans (Qa6 _)))) ?_
    have r3_2:=(ExtB.row q2 r3_1 (QaA hg l3))
    have r3_3:=(Qab r3_2 e3)
    have r3_4:=(Puts.row p4 r3_3 (Qag r3_2 l8))
    have r3_5:=(Qab r3_4 e5)
    have r3_6:=(Qab r3_5 e6)
    have r3_7:=(Puts.row p7 r3_6 (Qag r3_5 l11))
    have r3_8:=(Qab r3_7 e8)
    have r3_9:=(Puts.row p9 r3_8 (Qag r3_2 l8))
    have r3_10:=(Qab r3_9 e10)
    have r3_11:=(Qa2.row q11 r3_10 (QaU (Qag r3_9 l28) Qbt))
    refine Qal g3 _ (ints .u8 (by16 (SS+s))) 157 r3_11 rfl kj (Qav 157 _ _ g3 157 _ _ r3_11 rfl kj kj (isz (n:=16) kj ((Qaf _ _).trans (Qa6 _))) (eqsz (n:=16) ((Qaf _ _).trans (List.length_replicate (n:=16))) ((Qaf _ _).trans (Qa6 _))) (QaC _ _)) fun W12 p12 r3_12=>?_
    have x12:=ExtB.putsN xx2 p12 b3
    refine sgN hK37 <| wp_ret ?_
    repeat (first | with_reducible refine goR1 ?_ | with_reducible refine goR2 ?_)
    exact (show bodyPost _ _ _ .ret _ _ from ret1 (.agg (ints .u8 (by16 (SS+s)))) rfl (Qbq g3 157 _ r3_12 kj kj (isz (n:=16) kj ((Qaf _ _).trans (Qa6 _)))) ⟨by unfold tagV; rw [hfin],x12⟩)
 ·skip
  have hm0:m=0:=by have:=of_decide_eq_false c6; omega
  obtain ⟨SS,eSS⟩:∃ z,z=S:=⟨_,rfl⟩
  have hSS:SS%PP=Qdj r t:=by rw [eSS,QjX (hm0▸hq)]; exact hSm
  have hSb:0≤SS∧SS<2041694201525630780780247644590609268736:=eSS▸hS
  have r1_1_n:=r1_1
  rw [←eSS] at r1_1_n
  refine wp_skip <| hK4 _ _ <| sgC fun K38 hK38=>sg 3 kj <| Qaa (.agg (ints .u64 (nw3 (SS)))) 17 rfl kj (QaS 221 _ g 6 226 _ _ _ r1_1_n rfl kj (QaQ [ints .u64 (nw3 r),ints .u64 (nw3 s)] [ints .u64 (nw3 (SS))] [ints .u8 (pl),#[.int .i64 ((m:Nat):Int)]] 6 (by rw [Qar,Qar]; simp only [qS,cat,((Qaf _ _).trans (Qa8 _))]; rfl)) kj (isz (n:=3) kj ((Qaf _ _).trans (Qa8 _)))) ?_
  refine Qas (ints .u64 ([0,0,0])) 221 3 rfl kj kj fun g39 W2 l39 e2 r39_2=>?_
  have x2:=ExtB.ext x1 e2
  have b39:=qT x1.size l39
  refine Qal g39 _ (ints .u64 (nw3 (SS))) 221 r39_2 rfl kj (Qav 221 _ _ g39 221 _ _ r39_2 rfl kj kj (isz (n:=3) kj ((Qaf _ _).trans (Qa8 _))) (eqsz (n:=3) kj ((Qaf _ _).trans (Qa8 _))) (QaC _ _)) fun W3 p3 r39_3=>?_
  have x3:=ExtB.putsN x2 p3 b39
  refine sgN hK38 <| wp_seq_k fun K40 hK40=>sgC fun K41 hK41=>Qaa (.agg (ints .u64 (nw3 (SS)))) 18 rfl kj (Qao 221 _ g39 221 _ _ r39_3 rfl kj kj (isz (n:=3) kj ((Qaf _ _).trans (Qa8 _)))) <| sg 1 kj <| Qan (.agg (ints .u64 (nw3 (SS+5)))) 159 #[.agg (ints .u64 (nw3 (SS))),.agg (ints .u64 (nw3 5))] 20 rfl kj kj ((Qgg SS 5 hSb.1 (by decide) (by omega) (by decide) (by omega)) _) fun W4 e4=>?_
  have x4:=ExtB.ext x3 e4
  refine Qas (ints .u64 ([0,0,0])) 221 4 rfl kj kj fun g42 W5 l42 e5 r42_5=>?_
  have x5:=ExtB.ext x4 e5
  refine Qal g42 _ (ints .u64 (nw3 (SS+5))) 221 r42_5 rfl kj (Qav 221 _ _ g42 221 _ _ r42_5 rfl kj kj (isz (n:=3) kj ((Qaf _ _).trans (Qa8 _))) (eqsz (n:=3) kj ((Qaf _ _).trans (Qa8 _))) (QaC _ _)) fun W6 p6 r42_6=>?_
  have x6:=ExtB.putsN x5 p6 (qT x4.size l42)
  refine sgN hK41 <| sgC fun K43 hK43=>sg 1 kj <| Qaa (.int .u64 (nth (nw3 (SS+5)) 2)) 22 rfl kj (Qah 129 _ g42 2 221 _ (.int .u64 (nth (nw3 (SS+5)) 2)) _ r42_6 rfl kj (QaJ _ _ _ (Nat.lt_of_lt_of_eq (by decide) (Qa8 _).symm)) kj) <| Qaa (.bool (decide (1361129467683753853853498429727072845824≤SS+5))) 23 rfl kj (Qad (u:=.bool (decide ((nth (nw3 (SS+5)) 2)≥4))) kj (congrArg Value.bool (geq4 SS hSb.1 hSb.2))) <| sgN hK43 <| Qa7 (t:=decide (1361129467683753853853498429727072845824≤SS+5)) kj (fun c44=>?_) (fun c44=>?_)
  ·skip
   have hbig:1361129467683753853853498429727072845824≤SS+5:=of_decide_eq_true c44
   have hfin:by16 (SS+5+s)=by16 (Qdj r t+s):=by
    have e:SS+5+s=(Qdj r t+s)+1361129467683753853853498429727072845824:=by rw [←hSS]; unfold PP; omega
    rw [e,QgX]
   refine Qac <| Qaa (.agg (ints .u64 (nw3 (SS+5)))) 24 rfl kj (Qao 221 _ g42 221 _ _ r42_6 rfl kj kj (isz (n:=3) kj ((Qaf _ _).trans (Qa8 _)))) ?_
   have r39_4:=(Qab r39_3 e4)
   have r39_5:=(Qab r39_4 e5)
   have r39_6:=(Puts.row p6 r39_5 (Qag r39_4 l42))
   refine Qal g39 _ (ints .u64 (nw3 (SS+5))) 221 r39_6 rfl kj (Qav 221 _ _ g39 221 _ _ r39_6 rfl kj kj (isz (n:=3) kj ((Qaf _ _).trans (Qa8 _))) (eqsz (n:=3) ((Qaf _ _).trans (Qa8 _)) ((Qaf _ _).trans (Qa8 _))) (QaC _ _)) fun W7 p7 r39_7=>?_
   have x7:=ExtB.putsN x6 p7 b39
   refine Qae <| hK40 _ _ <| wp_seq_k fun K45 hK45=>QaX 6 [⟨none,[(3,none)]⟩,⟨none,[(0,none)]⟩,⟨none,[(26,some 1)]⟩,⟨none,[(27,some 2)]⟩,⟨none,[(28,some 3)]⟩,⟨none,[(25,some 0),(29,some 4)]⟩] kj kj fun F hF=>QaN (.agg (ints .u64 (nw3 (SS+5)))) kj kj (fun W hR=>(Qao 221 _ g39 221 _ _ (Qab (Qab r39_7 (Qak _)) hR) rfl kj kj (isz (n:=3) kj ((Qaf _ _).trans (Qa8 _))))) <| Qam (.pointer (some ⟨g,0,none⟩)) kj kj (fun W=>by kernel_rfl) <| Qam (.pointer (some ⟨g,0,none⟩)) kj kj (fun W=>by kernel_rfl) <| Qam (.pointer (some ⟨g,3,none⟩)) kj kj (fun W=>by kernel_rfl) ?_
   have r1_2:=(Qab r1_1_n e2)
   have r1_3:=(Puts.row p3 r1_2 (Qag r1_1_n l39))
   have r1_4:=(Qab r1_3 e4)
   have r1_5:=(Qab r1_4 e5)
   have r1_6:=(Puts.row p6 r1_5 (Qag r1_4 l42))
   have r1_7:=(Puts.row p7 r1_6 (Qag r1_1_n l39))
   refine QaN (.agg (ints .u64 (nw3 s))) kj kj (fun W hR=>(QaS 221 _ g 3 226 _ _ _ (Qab (Qab r1_7 (Qak _)) hR) rfl kj (QaQ [ints .u64 (nw3 r)] [ints .u64 (nw3 s)] [ints .u64 (nw3 (SS)),ints .u8 (pl),#[.int .i64 ((m:Nat):Int)]] 3 ((Qaf _ _).trans (Qa8 _))) kj (isz (n:=3) kj ((Qaf _ _).trans (Qa8 _))))) <| Qch (.agg (ints .u64 (nw3 (SS+5+s)))) 159 #[.agg (ints .u64 (nw3 (SS+5))),.agg (ints .u64 (nw3 s))] kj kj (fun W=>by kernel_rfl) (fun W hR=>(Qgg (SS+5) s (by omega) hs.1 (by omega) (by omega) (by omega)) W) <| Qbf (hF _ kj fun W8 e8=>?_)
   simp only [ups,up,Kn.val,List.take_succ_cons,List.take_zero,List.drop_succ_cons,List.drop_zero,List.nil_append,List.cons_append]
   clear hF
   have x8:=ExtB.ext x7 e8
   have r39_8:=(Qab r39_7 e8)
   refine Qal g39 _ (ints .u64 (nw3 (SS+5+s))) 221 r39_8 rfl kj (Qav 221 _ _ g39 221 _ _ r39_8 rfl kj kj (isz (n:=3) kj ((Qaf _ _).trans (Qa8 _))) (eqsz (n:=3) ((Qaf _ _).trans (Qa8 _)) ((Qaf _ _).trans (Qa8 _))) (QaC _ _)) fun W9 p9 r39_9=>?_
   have x9:=ExtB.putsN x8 p9 b39
   refine sgN hK45 <| sgC fun K46 hK46=>Qas (ints .u8 (List.replicate 16 0)) 157 5 rfl kj kj fun g47 W10 l47 e10 r47_10=>?_
   have x10:=ExtB.ext x9 e10
   refine sgN hK46 <| wp_seq_k fun K48 hK48=>sgB kj <| wp_block <| QaB (fun (s3:Nat)=>[(2,.pointer (some ⟨g3,0,none⟩)),(3,.pointer (some ⟨g39,0,none⟩)),(5,.pointer (some ⟨g47,0,none⟩)),(31,.int .i64 ((s3:Nat):Int))]) (fun (s3:Nat) W=>(s3≤16)∧(W.heap[g47]? = some (.cells (ints .u8 (Qbo (by16 (SS+5+s)) 16 s3)) 157))∧(Qa2 [g47] W10 W)∧(ExtB g w W)) (fun (s3:Nat)=>16-s3) 0 ⟨kj,kj,kj,kj,trivial⟩ ⟨(Nat.zero_le _),(QaI r47_10 (Qb1 _ 16)),(Qa2.refl [g47] W10),x10⟩ fun s3 X3 V3 hI3=>?_
   obtain ⟨i,hs3⟩:∃ z,z=s3:=⟨_,rfl⟩
   subst hs3
   obtain ⟨hi,q47_3,kk3,xx3⟩:=hI3
   replace hi:i≤16:=hi
   replace q47_3:V3.heap[g47]? = some (.cells (ints .u8 (Qbo (by16 (SS+5+s)) 16 i)) 157):=q47_3
   replace kk3:Qa2 [g47] W10 V3:=kk3
   replace xx3:ExtB g w V3:=xx3
   have q11:=kk3
   refine sgB kj <| wp_seq_k fun K51 hK51=>Qa7 (t:=decide (((i:Nat):Int)<16)) kj (fun c52=>?_) (fun c52=>?_)
   ·skip
    have hlt32:i<16:=by have:=of_decide_eq_true c52; omega
    refine wp_skip <| hK51 _ _ <| wp_seq_k fun K53 hK53=>wp_block <| sgB kj <| Qac <| sg 2 kj <| Qaa (.int .i64 ((i/8:Nat):Int)) 36 rfl kj (Qad (u:=.int .i64 (IntKind.i64.wrap (Int.tdiv (((i:Nat):Int)) (8)))) kj (congrArg (Value.int .i64) (Qcu _ 8 (by omega)))) <| Qaa (.pointer (some ⟨g39,i/8,none⟩)) 37 rfl kj (QaG _ _ _ .i64 (i/8) _ 3 129 rfl kj kj kj kj (by omega)) ?_
    have r39_10:=(Qab r39_9 e10)
    refine Qaa (.int .u64 (nth (nw3 (SS+5+s)) (i/8))) 38 rfl kj (Qah 129 _ g39 (i/8) 221 _ (.int .u64 (nth (nw3 (SS+5+s)) (i/8))) _ (Qa2.row q11 r39_10 (QaU (Qag r39_9 l47) Qbt)) rfl kj (QaJ _ _ _ (Nat.lt_of_lt_of_eq (by omega) (Qa8 _).symm)) kj) <| sg 1 kj <| Qaa (.int .i64 ((i%8:Nat):Int)) 40 rfl kj (Qad (u:=.int .i64 (Int.tmod (((i:Nat):Int)) (8))) kj (congrArg (Value.int .i64) (Qcg _ 8))) <| Qaa (.int .i64 ((8*(i%8):Nat):Int)) 41 rfl kj (Qad (u:=.int .i64 (IntKind.i64.wrap (8*((i%8:Nat):Int)))) kj (congrArg (Value.int .i64) (i64n _ _ (by omega) (by omega)))) <| Qaa (.int .u64 (nth (nw3 (SS+5+s)) (i/8)/p256 (i%8))) 42 rfl kj (QaP .shr _ _ _ _ .u64 .i64 _ _ _ rfl kj kj (Qdk _ _ _ _ _ _ (by omega) (shr8 _ (i%8) _ rfl (by omega)))) <| Qaa (.int .u8 (nth (by16 (SS+5+s)) i)) 43 rfl kj (Qad (u:=.int .u8 (IntKind.u8.wrap (nth (nw3 (SS+5+s)) (i/8)/p256 (i%8)))) kj (congrArg (Value.int .u8) (Qeu _ i hlt32))) <| Qaa (.pointer (some ⟨g47,i,none⟩)) 44 rfl kj (QaG _ _ _ .i64 (i) _ 16 5 rfl kj kj kj kj (by omega)) <| Qal g47 _ (ints .u8 ((Qbo (by16 (SS+5+s)) 16 i).set i (nth (by16 (SS+5+s)) i))) 157 q47_3 rfl kj (Qa1 5 _ _ g47 i 157 _ _ q47_3 rfl kj kj kj (Nat.lt_of_lt_of_eq (by omega) (Qb5 _ 16 _ (Qa6 _) hi).symm)) fun W12 p12 r47_12=>?_
    have x12:=ExtB.putsN xx3 p12 (qT x9.size l47)
    refine Qae <| hK53 _ _ <| Qac <| Qaa (.int .i64 ((i+1:Nat):Int)) 45 rfl kj (Qad (u:=.int .i64 (IntKind.i64.wrap (((i:Nat):Int)+1))) kj (congrArg (Value.int .i64) (i64n _ _ (by omega) (by omega)))) <| sg 1 kj <| Qae ?_
    repeat (first | with_reducible refine goX1 ?_ | with_reducible refine goX2 ?_ | with_reducible refine goX3 ?_)
    exact Qax (i+1) ⟨kj,kj,kj,kj,trivial⟩ ⟨(show i+1≤16 by omega),(QaI r47_12 (Qb2 _ 16 i (Qa6 _) hlt32)),(Qa2.puts q11 p12 (.inl (by simp))),x12⟩ (by show 16-(i+1)<16-i; omega)
   ·skip
    have heq32:i=16:=by have:=of_decide_eq_false c52; omega
    subst heq32
    have r47_11_55:V3.heap[g47]? = some (.cells (ints .u8 (by16 (SS+5+s))) 157):=QaI q47_3 (QbJ _ 16 (Qa6 _))
    refine wp_exit <| hK48 _ _ <| sgC fun K56 hK56=>Qaa (.agg (ints .u8 (by16 (SS+5+s)))) 46 rfl kj (Qao 157 _ g47 157 _ _ r47_11_55 rfl kj kj (isz (n:=16) kj ((Qaf _ _).trans (Qa6 _)))) ?_
    have r3_2:=(Qab r3_1 e2)
    have r3_3:=(Puts.row p3 r3_2 (Qag r3_1 l39))
    have r3_4:=(Qab r3_3 e4)
    have r3_5:=(Qab r3_4 e5)
    have r3_6:=(Puts.row p6 r3_5 (Qag r3_4 l42))
    have r3_7:=(Puts.row p7 r3_6 (Qag r3_1 l39))
    have r3_8:=(Qab r3_7 e8)
    have r3_9:=(Puts.row p9 r3_8 (Qag r3_1 l39))
    have r3_10:=(Qab r3_9 e10)
    have r3_11:=(Qa2.row q11 r3_10 (QaU (Qag r3_9 l47) Qbt))
    refine Qal g3 _ (ints .u8 (by16 (SS+5+s))) 157 r3_11 rfl kj (Qav 157 _ _ g3 157 _ _ r3_11 rfl kj kj (isz (n:=16) kj ((Qaf _ _).trans (Qa6 _))) (eqsz (n:=16) ((Qaf _ _).trans (List.length_replicate (n:=16))) ((Qaf _ _).trans (Qa6 _))) (QaC _ _)) fun W12 p12 r3_12=>?_
    have x12:=ExtB.putsN xx3 p12 b3
    refine sgN hK56 <| wp_ret ?_
    repeat (first | with_reducible refine goR1 ?_ | with_reducible refine goR2 ?_)
    exact (show bodyPost _ _ _ .ret _ _ from ret1 (.agg (ints .u8 (by16 (SS+5+s)))) rfl (Qbq g3 157 _ r3_12 kj kj (isz (n:=16) kj ((Qaf _ _).trans (Qa6 _)))) ⟨by unfold tagV; rw [hfin],x12⟩)
  ·skip
   have hbig:¬ 1361129467683753853853498429727072845824≤SS+5:=of_decide_eq_false c44
   have hfin:by16 (SS+s)=by16 (Qdj r t+s):=by
    have e:SS+s=Qdj r t+s:=by rw [←hSS]; unfold PP; omega
    rw [e]
   refine wp_skip <| hK40 _ _ <| wp_seq_k fun K57 hK57=>QaX 6 [⟨none,[(3,none)]⟩,⟨none,[(0,none)]⟩,⟨none,[(26,some 1)]⟩,⟨none,[(27,some 2)]⟩,⟨none,[(28,some 3)]⟩,⟨none,[(25,some 0),(29,some 4)]⟩] kj kj fun F hF=>?_
   have r39_4:=(Qab r39_3 e4)
   have r39_5:=(Qab r39_4 e5)
   have r39_6:=(Puts.row p6 r39_5 (Qag r39_4 l42))
   refine QaN (.agg (ints .u64 (nw3 (SS)))) kj kj (fun W hR=>(Qao 221 _ g39 221 _ _ (Qab (Qab r39_6 (Qak _)) hR) rfl kj kj (isz (n:=3) kj ((Qaf _ _).trans (Qa8 _))))) <| Qam (.pointer (some ⟨g,0,none⟩)) kj kj (fun W=>by kernel_rfl) <| Qam (.pointer (some ⟨g,0,none⟩)) kj kj (fun W=>by kernel_rfl) <| Qam (.pointer (some ⟨g,3,none⟩)) kj kj (fun W=>by kernel_rfl) ?_
   have r1_2:=(Qab r1_1_n e2)
   have r1_3:=(Puts.row p3 r1_2 (Qag r1_1_n l39))
   have r1_4:=(Qab r1_3 e4)
   have r1_5:=(Qab r1_4 e5)
   have r1_6:=(Puts.row p6 r1_5 (Qag r1_4 l42))
   refine QaN (.agg (ints .u64 (nw3 s))) kj kj (fun W hR=>(QaS 221 _ g 3 226 _ _ _ (Qab (Qab r1_6 (Qak _)) hR) rfl kj (QaQ [ints .u64 (nw3 r)] [ints .u64 (nw3 s)] [ints .u64 (nw3 (SS)),ints .u8 (pl),#[.int .i64 ((m:Nat):Int)]] 3 ((Qaf _ _).trans (Qa8 _))) kj (isz (n:=3) kj ((Qaf _ _).trans (Qa8 _))))) <| Qch (.agg (ints .u64 (nw3 (SS+s)))) 159 #[.agg (ints .u64 (nw3 (SS))),.agg (ints .u64 (nw3 s))] kj kj (fun W=>by kernel_rfl) (fun W hR=>(Qgg (SS) s (by omega) hs.1 (by omega) (by omega) (by omega)) W) <| Qbf (hF _ kj fun W7 e7=>?_)
   simp only [ups,up,Kn.val,List.take_succ_cons,List.take_zero,List.drop_succ_cons,List.drop_zero,List.nil_append,List.cons_append]
   clear hF
   have x7:=ExtB.ext x6 e7
   have r39_7:=(Qab r39_6 e7)
   refine Qal g39 _ (ints .u64 (nw3 (SS+s))) 221 r39_7 rfl kj (Qav 221 _ _ g39 221 _ _ r39_7 rfl kj kj (isz (n:=3) kj ((Qaf _ _).trans (Qa8 _))) (eqsz (n:=3) ((Qaf _ _).trans (Qa8 _)) ((Qaf _ _).trans (Qa8 _))) (QaC _ _)) fun W8 p8 r39_8=>?_
   have x8:=ExtB.putsN x7 p8 b39
   refine sgN hK57 <| sgC fun K58 hK58=>Qas (ints .u8 (List.replicate 16 0)) 157 5 rfl kj kj fun g59 W9 l59 e9 r59_9=>?_
   have x9:=ExtB.ext x8 e9
   refine sgN hK58 <| wp_seq_k fun K60 hK60=>sgB kj <| wp_block <| QaB (fun (s4:Nat)=>[(2,.pointer (some ⟨g3,0,none⟩)),(3,.pointer (some ⟨g39,0,none⟩)),(5,.pointer (some ⟨g59,0,none⟩)),(31,.int .i64 ((s4:Nat):Int))]) (fun (s4:Nat) W=>(s4≤16)∧(W.heap[g59]? = some (.cells (ints .u8 (Qbo (by16 (SS+s)) 16 s4)) 157))∧(Qa2 [g59] W9 W)∧(ExtB g w W)) (fun (s4:Nat)=>16-s4) 0 ⟨kj,kj,kj,kj,trivial⟩ ⟨(Nat.zero_le _),(QaI r59_9 (Qb1 _ 16)),(Qa2.refl [g59] W9),x9⟩ fun s4 X4 V4 hI4=>?_
   obtain ⟨i,hs4⟩:∃ z,z=s4:=⟨_,rfl⟩
   subst hs4
   obtain ⟨hi,q59_4,kk4,xx4⟩:=hI4
   replace hi:i≤16:=hi
   replace q59_4:V4.heap[g59]? = some (.cells (ints .u8 (Qbo (by16 (SS+s)) 16 i)) 157):=q59_4
   replace kk4:Qa2 [g59] W9 V4:=kk4
   replace xx4:ExtB g w V4:=xx4
   have q10:=kk4
   refine sgB kj <| wp_seq_k fun K63 hK63=>Qa7 (t:=decide (((i:Nat):Int)<16)) kj (fun c64=>?_) (fun c64=>?_)
   ·skip
    have hlt32:i<16:=by have:=of_decide_eq_true c64; omega
    refine wp_skip <| hK63 _ _ <| wp_seq_k fun K65 hK65=>wp_block <| sgB kj <| Qac <| sg 2 kj <| Qaa (.int .i64 ((i/8:Nat):Int)) 36 rfl kj (Qad (u:=.int .i64 (IntKind.i64.wrap (Int.tdiv (((i:Nat):Int)) (8)))) kj (congrArg (Value.int .i64) (Qcu _ 8 (by omega)))) <| Qaa (.pointer (some ⟨g39,i/8,none⟩)) 37 rfl kj (QaG _ _ _ .i64 (i/8) _ 3 129 rfl kj kj kj kj (by omega)) ?_
    have r39_9:=(Qab r39_8 e9)
    have r39_10:=(Qa2.row q10 r39_9 (QaU (Qag r39_8 l59) Qbt))
    refine Qaa (.int .u64 (nth (nw3 (SS+s)) (i/8))) 38 rfl kj (Qah 129 _ g39 (i/8) 221 _ (.int .u64 (nth (nw3 (SS+s)) (i/8))) _ r39_10 rfl kj (QaJ _ _ _ (Nat.lt_of_lt_of_eq (by omega) (Qa8 _).symm)) kj) <| sg 1 kj <| Qaa (.int .i64 ((i%8:Nat):Int)) 40 rfl kj (Qad (u:=.int .i64 (Int.tmod (((i:Nat):Int)) (8))) kj (congrArg (Value.int .i64) (Qcg _ 8))) <| Qaa (.int .i64 ((8*(i%8):Nat):Int)) 41 rfl kj (Qad (u:=.int .i64 (IntKind.i64.wrap (8*((i%8:Nat):Int)))) kj (congrArg (Value.int .i64) (i64n _ _ (by omega) (by omega)))) <| Qaa (.int .u64 (nth (nw3 (SS+s)) (i/8)/p256 (i%8))) 42 rfl kj (QaP .shr _ _ _ _ .u64 .i64 _ _ _ rfl kj kj (Qdk _ _ _ _ _ _ (by omega) (shr8 _ (i%8) _ rfl (by omega)))) <| Qaa (.int .u8 (nth (by16 (SS+s)) i)) 43 rfl kj (Qad (u:=.int .u8 (IntKind.u8.wrap (nth (nw3 (SS+s)) (i/8)/p256 (i%8)))) kj (congrArg (Value.int .u8) (Qeu _ i hlt32))) <| Qaa (.pointer (some ⟨g59,i,none⟩)) 44 rfl kj (QaG _ _ _ .i64 (i) _ 16 5 rfl kj kj kj kj (by omega)) <| Qal g59 _ (ints .u8 ((Qbo (by16 (SS+s)) 16 i).set i (nth (by16 (SS+s)) i))) 157 q59_4 rfl kj (Qa1 5 _ _ g59 i 157 _ _ q59_4 rfl kj kj kj (Nat.lt_of_lt_of_eq (by omega) (Qb5 _ 16 _ (Qa6 _) hi).symm)) fun W11 p11 r59_11=>?_
    have x11:=ExtB.putsN xx4 p11 (qT x8.size l59)
    refine Qae <| hK65 _ _ <| Qac <| Qaa (.int .i64 ((i+1:Nat):Int)) 45 rfl kj (Qad (u:=.int .i64 (IntKind.i64.wrap (((i:Nat):Int)+1))) kj (congrArg (Value.int .i64) (i64n _ _ (by omega) (by omega)))) <| sg 1 kj <| Qae ?_
    repeat (first | with_reducible refine goX1 ?_ | with_reducible refine goX2 ?_ | with_reducible refine goX3 ?_)
    exact Qax (i+1) ⟨kj,kj,kj,kj,trivial⟩ ⟨(show i+1≤16 by omega),(QaI r59_11 (Qb2 _ 16 i (Qa6 _) hlt32)),(Qa2.puts q10 p11 (.inl (by simp))),x11⟩ (by show 16-(i+1)<16-i; omega)
   ·skip
    have heq32:i=16:=by have:=of_decide_eq_false c64; omega
    subst heq32
    have r59_10_67:V4.heap[g59]? = some (.cells (ints .u8 (by16 (SS+s))) 157):=QaI q59_4 (QbJ _ 16 (Qa6 _))
    refine wp_exit <| hK60 _ _ <| sgC fun K68 hK68=>Qaa (.agg (ints .u8 (by16 (SS+s)))) 46 rfl kj (Qao 157 _ g59 157 _ _ r59_10_67 rfl kj kj (isz (n:=16) kj ((Qaf _ _).trans (Qa6 _)))) ?_
    have r3_2:=(Qab r3_1 e2)
    have r3_3:=(Puts.row p3 r3_2 (Qag r3_1 l39))
    have r3_4:=(Qab r3_3 e4)
    have r3_5:=(Qab r3_4 e5)
    have r3_6:=(Puts.row p6 r3_5 (Qag r3_4 l42))
    have r3_7:=(Qab r3_6 e7)
    have r3_8:=(Puts.row p8 r3_7 (Qag r3_1 l39))
    have r3_9:=(Qab r3_8 e9)
    have r3_10:=(Qa2.row q10 r3_9 (QaU (Qag r3_8 l59) Qbt))
    refine Qal g3 _ (ints .u8 (by16 (SS+s))) 157 r3_10 rfl kj (Qav 157 _ _ g3 157 _ _ r3_10 rfl kj kj (isz (n:=16) kj ((Qaf _ _).trans (Qa6 _))) (eqsz (n:=16) ((Qaf _ _).trans (List.length_replicate (n:=16))) ((Qaf _ _).trans (Qa6 _))) (QaC _ _)) fun W11 p11 r3_11=>?_
    have x11:=ExtB.putsN xx4 p11 b3
    refine sgN hK68 <| wp_ret ?_
    repeat (first | with_reducible refine goR1 ?_ | with_reducible refine goR2 ?_)
    exact (show bodyPost _ _ _ .ret _ _ from ret1 (.agg (ints .u8 (by16 (SS+s)))) rfl (Qbq g3 157 _ r3_11 kj kj (isz (n:=16) kj ((Qaf _ _).trans (Qa6 _)))) ⟨by unfold tagV; rw [hfin],x11⟩)
end Go.Proofs.YtoiendjhplbjjaaDoor.Ae
end
section
namespace Go.Proofs.YtoiendjhplbjjaaDoor.Ae
open Go Go.RowKit
open Rely Auto Own Sha
open Sha Cha
def by8 (n : Int):List Int:=(List.range 8).map fun i=>n/p256 i%256
theorem QbB (n : Int):(by8 n).length=8:=by simp [by8]
theorem Qds (n : Int):Qai (by8 n):=fun x hx=>by
  unfold by8 at hx
  obtain ⟨i,-,rfl⟩:=List.mem_map.1 hx
  omega
theorem Qi1 (n : Int) (i:Nat) (h:i<8):nth (by8 n) i=n/p256 i%256:=by
  unfold by8 nth
  rw [List.getD_eq_getElem?_getD,List.getElem?_map,List.getElem?_range h]
  rfl
theorem Qgm (n : Int) (i:Nat) (h:i<8):IntKind.u8.wrap (n/p256 i)=nth (by8 n) i:=by
  have h3:∀ z:Int,IntKind.u8.wrap z=z%256:=fun _=>rfl
  rw [h3,Qi1 n i h]
theorem or8 (x y:Int):bits .or .u8 x y=(((BitVec.ofInt 8 x)|||(BitVec.ofInt 8 y)).toNat:Int):=by
  have h:bits .or .u8 x y=IntKind.u8.wrap (((BitVec.ofInt 8 x)|||(BitVec.ofInt 8 y)).toNat:Int):=rfl
  have h3:∀ z:Int,IntKind.u8.wrap z=z%256:=fun _=>rfl
  rw [h,h3]
  have:=((BitVec.ofInt 8 x)|||(BitVec.ofInt 8 y)).isLt
  omega
theorem QkF (x y:Int):0≤bits .or .u8 x y∧bits .or .u8 x y<256:=by
  rw [or8]
  have:=((BitVec.ofInt 8 x)|||(BitVec.ofInt 8 y)).isLt
  omega
theorem QfV (x y:Int):0≤bits .xor .u8 x y∧bits .xor .u8 x y<256:=by
  rw [Qi2]
  have:=((BitVec.ofInt 8 x)^^^(BitVec.ofInt 8 y)).isLt
  omega
theorem QiP (x y:Int) (hx:0≤x∧x<256) (hy:0≤y∧y<256):bits .or .u8 x y=0↔x=0∧y=0:=by
  rw [or8,BitVec.toNat_or,BitVec.toNat_ofInt,BitVec.toNat_ofInt]
  have h:=@Nat.or_eq_zero_iff (x%((2^8:Nat):Int)).toNat (y%((2^8:Nat):Int)).toNat
  omega
theorem Qf0 (y : Int):bits .xor .u8 y y=0:=by rw [Qi2,BitVec.xor_self]; rfl
theorem Qh9 (x y:Int) (hx:0≤x∧x≤255) (hy:0≤y∧y≤255):bits .xor .u8 x y=0↔x=y:=by
  constructor
  · intro h
    have h1:=QeZ x y hx.1 hx.2
    have h2:=QeZ y y hy.1 hy.2
    rw [Qf0] at h2
    rw [h] at h1
    exact h1.symm.trans h2
  · intro h; subst h; exact Qf0 x
theorem QjC (xs ys:List Int) (i:Nat) (h1:i<xs.length) (h2:i<ys.length):xs.take (i+1)=ys.take (i+1)↔xs.take i=ys.take i∧nth xs i=nth ys i:=by
  rw [QcO xs i h1,QcO ys i h2]
  constructor
  · intro h
    have h3:=List.append_inj h (by rw [List.length_take,List.length_take]; omega)
    exact ⟨h3.1,by simpa using h3.2⟩
  · rintro ⟨a,b⟩; rw [a,b]
theorem QhH {xs ys:List Int} {i:Nat} {d:Int} (h1:i<xs.length) (h2:i<ys.length) (hx:Qai xs) (hy:Qai ys) (hd:0≤d∧d<256) (h:d=0↔xs.take i=ys.take i) :
    bits .or .u8 d (bits .xor .u8 (nth xs i) (nth ys i))=0↔xs.take (i+1)=ys.take (i+1):=by
  have bx:=Qa5 hx i
  have by_:=Qa5 hy i
  rw [QiP _ _ hd (QfV _ _),Qh9 _ _ (by omega) (by omega),QjC xs ys i h1 h2,h]
theorem Qkv (d : Int) (p:Prop) [Decidable p] (h:d=0↔p):(d==0)=decide p:=by
  by_cases e:d=0
  · rw [decide_eq_true (h.1 e),e]; rfl
  · rw [decide_eq_false (fun hp=>e (h.2 hp))]; exact beq_eq_false_iff_ne.2 e
theorem Mk.ext {g : Nat} {r s:Int} {t:List Int} {W W':World} (h:Mk g r s t W) (e:Ext W W'):Mk g r s t W':=by
  obtain ⟨S,pl,q,m,h1,h2,h3,h4⟩:=h
  exact ⟨S,pl,q,m,h1,h2,Qab h3 e,h4⟩
theorem Qgn (n : Nat) (w:World):Calls Tryd.prog 112 #[.int .i64 ((n:Nat):Int)] w (QbD w (OwnN .u8 5 w.heap.size (by8 (n:Int)))):=by
 refine enter 21 [(0,.int .i64 ((n:Nat):Int))] Tryd.func112 rfl rfl kj rfl <| sgB kj <| sgC fun K2 hK2=>QaD (ints .u8 (List.replicate 8 0)) 5 8 5 rfl kj (Qe3 33 _ _ .i64 .i64 8 5 rfl kj kj kj (.inr kj) (by decide)) fun g3 W1 l3 e1 r3_1=>?_
 have b3:=qT (Rely.Ext.refl w).size l3
 refine sg 1 kj <| sgN hK2 <| wp_seq_k fun K4 hK4=>sgB kj <| wp_block <| QaB (fun (s1:Nat)=>[(0,.int .i64 ((n:Nat):Int)),(2,.slice none 0 0),(3,.slice (some ⟨g3,0,none⟩) 8 8),(6,.slice (some ⟨g3,0,none⟩) 8 8),(7,.int .i64 8),(8,.int .i64 ((s1:Nat):Int))]) (fun (s1:Nat) W=>(s1≤8)∧(W.heap[g3]? = some (.cells (ints .u8 (Qbo (by8 (n:Int)) 8 s1)) 5))∧(Qa2 [g3] W1 W)∧(Ext w W)) (fun (s1:Nat)=>8-s1) 0 ⟨kj,kj,kj,kj,kj,kj,trivial⟩ ⟨(Nat.zero_le _),(QaI r3_1 (Qb1 _ 8)),(Qa2.refl [g3] W1),(Ext.tr (Rely.Ext.refl w) e1)⟩ fun s1 X1 V1 hI1=>?_
 obtain ⟨i,hs1⟩:∃ z,z=s1:=⟨_,rfl⟩
 subst hs1
 obtain ⟨hi,q3_1,kk1,xx1⟩:=hI1
 replace hi:i≤8:=hi
 replace q3_1:V1.heap[g3]? = some (.cells (ints .u8 (Qbo (by8 (n:Int)) 8 i)) 5):=q3_1
 replace kk1:Qa2 [g3] W1 V1:=kk1
 replace xx1:Ext w V1:=xx1
 have q2:=kk1
 refine sgB kj <| wp_seq_k fun K7 hK7=>Qa7 (t:=decide (((i:Nat):Int)<8)) kj (fun c8=>?_) (fun c8=>?_)
 ·skip
  have hlt9:i<8:=by have:=of_decide_eq_true c8; omega
  refine wp_skip <| hK7 _ _ <| wp_seq_k fun K9 hK9=>wp_block <| sgB kj <| Qac <| sg 4 kj <| Qaa (.int .i64 ((8*i:Nat):Int)) 15 rfl kj (Qad (u:=.int .i64 (IntKind.i64.wrap (8*((i:Nat):Int)))) kj (congrArg (Value.int .i64) (i64n _ _ (by omega) (by omega)))) <| Qaa (.int .i64 ((n:Int)/p256 i)) 16 rfl kj (QaP .shr _ _ _ _ .i64 .i64 _ _ _ rfl kj kj (Qdk _ _ _ _ _ _ (by omega) (shr8 _ i _ rfl (by omega)))) <| Qaa (.int .u8 (nth (by8 (n:Int)) i)) 17 rfl kj (Qad (u:=.int .u8 (IntKind.u8.wrap ((n:Int)/p256 i))) kj (congrArg (Value.int .u8) (Qgm _ i hlt9))) ?_
  refine Qaa (.pointer (some ⟨g3,i,none⟩)) 18 rfl kj (Qau 33 _ _ .i64 (i) g3 8 8 5 rfl kj kj kj kj (by omega)) <| Qal g3 _ (ints .u8 ((Qbo (by8 (n:Int)) 8 i).set i (nth (by8 (n:Int)) i))) 5 q3_1 rfl kj (Qa1 5 _ _ g3 i 5 _ _ q3_1 rfl kj kj kj (Nat.lt_of_lt_of_eq (by omega) (Qb5 _ 8 _ (QbB _) hi).symm)) fun W3 p3 r3_3=>Qae <| hK9 _ _ <| Qac <| Qaa (.int .i64 ((i+1:Nat):Int)) 19 rfl kj (Qad (u:=.int .i64 (IntKind.i64.wrap (((i:Nat):Int)+1))) kj (congrArg (Value.int .i64) (i64n _ _ (by omega) (by omega)))) <| sg 1 kj <| Qae ?_
  repeat (first | with_reducible refine goX1 ?_ | with_reducible refine goX2 ?_ | with_reducible refine goX3 ?_)
  exact Qax (i+1) ⟨kj,kj,kj,kj,kj,kj,trivial⟩ ⟨(show i+1≤8 by omega),(QaI r3_3 (Qb2 _ 8 i (QbB _) hlt9)),(Qa2.puts q2 p3 (.inl (by simp))),(Puts.ext p3 xx1 b3)⟩ (by show 8-(i+1)<8-i; omega)
 ·skip
  have heq9:i=8:=by have:=of_decide_eq_false c8; omega
  subst heq9
  have r3_2_11:V1.heap[g3]? = some (.cells (ints .u8 (by8 (n:Int))) 5):=QaI q3_1 (QbJ _ 8 (QbB _))
  refine wp_exit <| hK4 _ _ <| sgB kj <| wp_ret ?_
  repeat (first | with_reducible refine goR1 ?_ | with_reducible refine goR2 ?_)
  exact (show bodyPost _ _ _ .ret _ _ from ret1 (.slice (some ⟨g3,0,none⟩) 8 8) rfl (Qaq kj) ⟨_,rfl,xx1,QbW (xs:=by8 (n:Int)) (QbB _) b3 r3_2_11 (by decide)⟩)
theorem Qkz (xs : List Int) (v:Value) (B:Nat) (w:World) (h:RdK .u8 B xs v w):Calls Tryd.prog 126 #[v] w (QbD w (OwnN .u8 5 w.heap.size (List.replicate ((16-xs.length%16)%16) 0))):=by
  obtain ⟨a_x,c_x,rfl,-⟩:=id h
  refine enter 9 [(0,.slice a_x xs.length c_x)] Tryd.func126 rfl rfl kj rfl <| sgB kj <| sgC fun K2 hK2=>sg 2 kj <| Qaa (.int .i64 ((xs.length%16:Nat):Int)) 5 rfl kj (Qad (u:=.int .i64 (Int.tmod (((xs.length:Nat):Int)) (16))) kj (congrArg (Value.int .i64) (Qcg _ 16))) <| Qaa (.int .i64 ((16-(xs.length%16):Nat):Int)) 6 rfl kj (Qad (u:=.int .i64 (IntKind.i64.wrap (16-((xs.length%16:Nat):Int)))) kj (congrArg (Value.int .i64) (i64n _ _ (by omega) (by omega)))) <| Qaa (.int .i64 (((16-(xs.length%16))%16:Nat):Int)) 7 rfl kj (Qad (u:=.int .i64 (Int.tmod (((16-(xs.length%16):Nat):Int)) (16))) kj (congrArg (Value.int .i64) (Qcg _ 16))) <| QaD (ints .u8 (List.replicate ((16-(xs.length%16))%16) 0)) 5 ((16-(xs.length%16))%16) 8 rfl kj (Qe3 33 _ _ .i64 .i64 ((16-(xs.length%16))%16) 5 rfl kj kj kj (.inr kj) (by omega)) fun g3 W1 l3 e1 r3_1=>sg 1 kj <| sgN hK2 ?_
  refine wp_ret ?_
  repeat (first | with_reducible refine goR1 ?_ | with_reducible refine goR2 ?_)
  exact (show bodyPost _ _ _ .ret _ _ from ret1 (.slice (some ⟨g3,0,none⟩) ((16-(xs.length%16))%16) ((16-(xs.length%16))%16)) rfl (Qaq kj) ⟨_,rfl,(Ext.tr (Rely.Ext.refl w) e1),QbW (List.length_replicate ..) (qT (Rely.Ext.refl w).size l3) r3_1 (by rw [maxLen]; omega)⟩)
theorem Qjv (xs ys:List Int) (v v2:Value) (B B2:Nat) (w:World) (hx:RdK .u8 B xs v w) (hy:RdK .u8 B2 ys v2 w) (hxb:Qai xs) (hyb:Qai ys) (hl:ys.length=xs.length) (hxl:xs.length≤2000000):Calls Tryd.prog 107 #[v,v2] w (Ret w (.bool (decide (xs=ys)))):=by
 obtain ⟨a_x,c_x,rfl,-⟩:=id hx
 obtain ⟨a_y,c_y,rfl,-⟩:=id hy
 refine enter 26 [(0,.slice a_x xs.length c_x),(1,.slice a_y ys.length c_y)] Tryd.func107 rfl rfl kj rfl <| sgB kj <| sgB kj <| wp_seq_k fun K3 hK3=>sgB kj <| wp_block <| QaB (fun (s1:Nat×Int)=>[(0,.slice a_x xs.length c_x),(1,.slice a_y ys.length c_y),(4,.bool false),(5,.int .u8 (s1.2)),(7,.slice a_x xs.length c_x),(8,.int .i64 ((xs.length:Nat):Int)),(9,.int .i64 ((s1.1:Nat):Int))]) (fun (s1:Nat×Int) W=>(s1.1≤xs.length)∧(0≤s1.2∧s1.2<256)∧(s1.2=0↔xs.take s1.1=ys.take s1.1)∧(Ext w W)∧(Ext w W)) (fun (s1:Nat×Int)=>xs.length-s1.1) (0,0) ⟨kj,kj,kj,kj,kj,kj,kj,trivial⟩ ⟨(Nat.zero_le _),⟨by decide,by decide⟩,(by simp),(Rely.Ext.refl w),(Rely.Ext.refl w)⟩ fun s1 X1 V1 hI1=>?_
 obtain ⟨i,d⟩:=s1
 obtain ⟨hi,hdb,hd,kk1,xx1⟩:=hI1
 replace hi:i≤xs.length:=hi
 replace hdb:0≤d∧d<256:=hdb
 replace hd:d=0↔xs.take i=ys.take i:=hd
 replace kk1:Ext w V1:=kk1
 replace xx1:Ext w V1:=xx1
 have e1:=kk1
 refine sgB kj <| wp_seq_k fun K6 hK6=>Qa7 (t:=decide (((i:Nat):Int)<((xs.length:Nat):Int))) kj (fun c7=>?_) (fun c7=>?_)
 ·skip
  have hlt:i<xs.length:=by have:=of_decide_eq_true c7; omega
  obtain ⟨grx8,orx8,harx8,-,hlrx8,hcrx8⟩:=Qb0 (RdK.ext hx xx1) (by omega)
  obtain ⟨gry9,ory9,hary9,-,hlry9,hcry9⟩:=Qb0 (RdK.ext hy xx1) (by omega)
  refine wp_skip <| hK6 _ _ <| wp_seq_k fun K10 hK10=>wp_block <| sgB kj <| QaL 10 [⟨none,[(5,none)]⟩,⟨none,[(0,none)]⟩,⟨none,[(6,none)]⟩,⟨none,[(13,some 1),(14,some 2)]⟩,⟨none,[(15,some 3)]⟩,⟨none,[(1,none)]⟩,⟨none,[(6,none)]⟩,⟨none,[(17,some 5),(18,some 6)]⟩,⟨none,[(19,some 7)]⟩,⟨none,[(16,some 4),(20,some 8)]⟩] kj kj fun F hF=>Qay (Qaj _) (.int .u8 (d)) kj kj (fun W=>by kernel_rfl) <| Qay (Qaj _) (.slice a_x xs.length c_x) kj kj (fun W=>by kernel_rfl) <| Qay (Qaj _) (.int .i64 ((i:Nat):Int)) kj kj (fun W=>by kernel_rfl) <| Qay (Qaj _) (.pointer (some ⟨grx8,orx8+i,none⟩)) kj kj (fun W=>(Qaw 33 _ _ .i64 i grx8 orx8 xs.length c_x 5 a_x _ harx8 rfl rfl kj kj kj kj (Nat.lt_of_lt_of_eq (show i<(xs).length by omega) (rfl:(xs).length=(xs).length).symm))) ?_
  refine Qbi (Qaj _) (.int .u8 (nth (xs) (i))) kj kj (fun W hR=>(Qap 5 _ _ (.int .u8 (nth (xs) (i))) ((Below.cell (Rely.Ext.trans (Qak _) hR) hlrx8).trans (hcrx8 i (Nat.lt_of_lt_of_eq (show i<(xs).length by omega) (rfl:(xs).length=(xs).length).symm))) rfl kj kj)) <| Qay (Qaj _) (.slice a_y ys.length c_y) kj kj (fun W=>by kernel_rfl) <| Qay (Qaj _) (.int .i64 ((i:Nat):Int)) kj kj (fun W=>by kernel_rfl) <| Qay (Qaj _) (.pointer (some ⟨gry9,ory9+i,none⟩)) kj kj (fun W=>(Qaw 33 _ _ .i64 i gry9 ory9 ys.length c_y 5 a_y _ hary9 rfl rfl kj kj kj kj (Nat.lt_of_lt_of_eq (show i<(ys).length by omega) (rfl:(ys).length=(ys).length).symm))) <| Qbi (Qaj _) (.int .u8 (nth (ys) (i))) kj kj (fun W hR=>(Qap 5 _ _ (.int .u8 (nth (ys) (i))) ((Below.cell (Rely.Ext.trans (Qak _) hR) hlry9).trans (hcry9 i (Nat.lt_of_lt_of_eq (show i<(ys).length by omega) (rfl:(ys).length=(ys).length).symm))) rfl kj kj)) <| Qay (Qaj _) (.int .u8 (bits .xor .u8 ((nth (xs) (i))) ((nth (ys) (i))))) kj kj (fun W=>by kernel_rfl) <| Qck (hF _ fun W2 e2=>?_)
  simp only [List.nil_append,List.cons_append,List.take_succ_cons,List.take_zero,List.drop_succ_cons,List.drop_zero,finE,up]
  clear hF
  refine sg 2 kj <| Qae <| hK10 _ _ <| Qac <| Qaa (.int .i64 ((i+1:Nat):Int)) 23 rfl kj (Qad (u:=.int .i64 (IntKind.i64.wrap (((i:Nat):Int)+1))) kj (congrArg (Value.int .i64) (i64n _ _ (by omega) (by omega)))) <| sg 1 kj <| Qae ?_
  repeat (first | with_reducible refine goX1 ?_ | with_reducible refine goX2 ?_ | with_reducible refine goX3 ?_)
  exact Qax ((i+1),(bits .or .u8 (d) ((bits .xor .u8 ((nth (xs) (i))) ((nth (ys) (i))))))) ⟨kj,kj,kj,kj,kj,kj,kj,trivial⟩ ⟨(by omega),(QkF _ _),(QhH hlt (by omega) hxb hyb hdb hd),(Rely.Ext.trans e1 e2),(Ext.tr xx1 e2)⟩ (by show xs.length-(i+1)<xs.length-i; omega)
 ·skip
  have hie:i=xs.length:=by have:=of_decide_eq_false c7; omega
  have hall:d=0↔xs=ys:=by rw [hie,List.take_length,List.take_of_length_le (by omega)] at hd; exact hd
  refine wp_exit <| hK3 _ _ <| sgC fun K12 hK12=>sg 1 kj <| Qaa (.bool (decide (xs=ys))) 25 rfl kj (Qad (u:=.bool ((d==0))) kj (congrArg Value.bool (Qkv _ _ hall))) <| sg 1 kj <| sgN hK12 <| wp_ret ?_
  repeat (first | with_reducible refine goR1 ?_ | with_reducible refine goR2 ?_)
  exact (show bodyPost _ _ _ .ret _ _ from ret1 (.bool (decide (xs=ys))) rfl (Qaq kj) ⟨rfl,xx1⟩)
set_option maxRecDepth 100000 in
theorem QkL (key y0 y1 y2 y3 y4:List Int) (v0 v1 v2 v3 v4:Value) (gp B:Nat) (w:World) (hkl:key.length=32) (hkb:Qai key) (hB:B≤w.heap.size) (hy0:RdK .u8 B y0 v0 w) (hb0:Qai y0) (hl0:y0.length≤3000000) (hy1:RdK .u8 B y1 v1 w) (hb1:Qai y1) (hl1:y1.length≤3000000) (hy2:RdK .u8 B y2 v2 w) (hb2:Qai y2) (hl2:y2.length≤3000000) (hy3:RdK .u8 B y3 v3 w) (hb3:Qai y3) (hl3:y3.length≤3000000) (hy4:RdK .u8 B y4 v4 w) (hb4:Qai y4) (hl4:y4.length≤3000000) (hp0:w.heap[gp]? = some (.cells #[v0,v1,v2,v3,v4] 33)) :
    Calls Tryd.prog 125 #[.agg (ints .u8 key),.slice (some ⟨gp,0,none⟩) 5 5] w (Ret w (.agg (ints .u8 (tagV (rOf key) (sOf key) (y0++y1++y2++y3++y4))))):=by
  obtain ⟨a_y0,c_y0,rfl,-⟩:=id hy0
  obtain ⟨a_y1,c_y1,rfl,-⟩:=id hy1
  obtain ⟨a_y2,c_y2,rfl,-⟩:=id hy2
  obtain ⟨a_y3,c_y3,rfl,-⟩:=id hy3
  obtain ⟨a_y4,c_y4,rfl,-⟩:=id hy4
  have hp:w.heap[gp]? = some (.cells (cat [#[.slice a_y0 y0.length c_y0],#[.slice a_y1 y1.length c_y1],#[.slice a_y2 y2.length c_y2],#[.slice a_y3 y3.length c_y3],#[.slice a_y4 y4.length c_y4]]) 33):=hp0
  refine enter 22 [(0,.agg (ints .u8 (key))),(1,.slice (some ⟨gp,0,none⟩) 5 5)] Tryd.func125 rfl rfl kj rfl <| sgC fun K2 hK2=>Qas (ints .u8 (key)) 23 2 rfl kj kj fun g3 W1 l3 e1 r3_1=>?_
  have x1:=Ext.tr (Rely.Ext.refl w) e1
  have b3:=qT (Rely.Ext.refl w).size l3
  refine Qas (ints .u8 (List.replicate 16 0)) 157 4 rfl kj kj fun g4 W2 l4 e2 r4_2=>?_
  have x2:=Ext.tr x1 e2
  refine sgN hK2 <| sgC fun K5 hK5=>Qaa (.agg (ints .u8 (key))) 8 rfl kj (Qao 23 _ g3 23 _ _ (Qab r3_1 e2) rfl kj kj (isz (n:=32) kj ((Qaf _ _).trans hkl))) <| Qat (fun v W'=>(fun v W=>∃ g,v=.pointer (some ⟨g,0,none⟩)∧W2.heap.size≤g∧Mk g (rOf key) (sOf key) [] W) v W'∧Ext W2 W') 142 #[.agg (ints .u8 (key))] 9 rfl kj kj ((Qhx key _ hkl hkb).mono (by rintro e w' ⟨v,rfl,e1,hv⟩; exact ⟨v,rfl,hv,e1⟩)) fun vv6 W3 hh6=>?_
  obtain ⟨hv6,e3⟩:=hh6
  have x3:=Ext.tr x2 e3
  obtain ⟨gm,rfl,lm,hM0⟩:=hv6
  have hgm:w.heap.size≤gm:=qT x2.size lm
  refine sg 1 kj <| sgN hK5 <| wp_seq_k fun K8 hK8=>sgB kj <| wp_block <| wp_loop_rounds 6 ?_
  show Code.wp _ _ (Exit.then (Code.rounds _ _ _ 5) _) _ _
  refine sgB kj <| sgT kj <| wp_seq_k fun K12 hK12=>wp_block <| sgC fun K13 hK13=>Qaa (.pointer (some ⟨gp,0,none⟩)) 14 rfl kj (Qau 47 _ _ .i64 (0) gp 5 5 33 rfl kj kj kj kj (by decide)) ?_
  have r1_2:=(Qab (Qab hp e1) e2)
  have r1_3:=(Qab r1_2 e3)
  refine Qaa (.slice a_y0 y0.length c_y0) 15 rfl kj (Qah 33 _ gp 0 33 _ (.slice a_y0 y0.length c_y0) _ r1_3 rfl kj kj kj) <| sg 1 kj <| sgN hK13 <| Qac <| sg 2 kj <| Qat (fun v W'=>v=.tuple #[]∧ExtB gm W3 W'∧Mk gm (rOf key) (sOf key) (y0) W') 143 #[.pointer (some ⟨gm,0,none⟩),.slice a_y0 y0.length c_y0] 18 rfl kj kj ((addC gm (rOf key) (sOf key) ([]) y0 _ B _ (QeR key hkl hkb) (qT hB hgm) (RdK.ext hy0 x3) hb0 hl0 hM0).mono fun e w' h=>⟨_,h.1,rfl,h.2⟩) fun v W4 h4=>?_
  obtain ⟨rfl,q4,M4⟩:=h4
  have x4:=ExtB.up x3 q4 hgm
  refine Qae <| hK12 _ _ <| sgA kj ?_
  show Code.rounds _ _ _ 5 _ _
  show Code.wp _ _ (Exit.then (Code.rounds _ _ _ 4) _) _ _
  refine sgB kj <| sgT kj <| wp_seq_k fun K16 hK16=>wp_block <| sgC fun K17 hK17=>Qaa (.pointer (some ⟨gp,1,none⟩)) 14 rfl kj (Qau 47 _ _ .i64 (1) gp 5 5 33 rfl kj kj kj kj (by decide)) ?_
  have r1_4:=(ExtB.row q4 r1_3 (Qag r1_2 lm))
  refine Qaa (.slice a_y1 y1.length c_y1) 15 rfl kj (Qah 33 _ gp 1 33 _ (.slice a_y1 y1.length c_y1) _ r1_4 rfl kj kj kj) <| sg 1 kj <| sgN hK17 <| Qac <| sg 2 kj <| Qat (fun v W'=>v=.tuple #[]∧ExtB gm W4 W'∧Mk gm (rOf key) (sOf key) (y0++y1) W') 143 #[.pointer (some ⟨gm,0,none⟩),.slice a_y1 y1.length c_y1] 18 rfl kj kj ((addC gm (rOf key) (sOf key) (y0) y1 _ B _ (QeR key hkl hkb) (qT hB hgm) (RdK.ext hy1 x4) hb1 hl1 M4).mono fun e w' h=>⟨_,h.1,rfl,h.2⟩) fun v W5 h5=>?_
  obtain ⟨rfl,q5,M5⟩:=h5
  have x5:=ExtB.up x4 q5 hgm
  refine Qae <| hK16 _ _ <| sgA kj ?_
  show Code.rounds _ _ _ 4 _ _
  show Code.wp _ _ (Exit.then (Code.rounds _ _ _ 3) _) _ _
  refine sgB kj <| sgT kj <| wp_seq_k fun K20 hK20=>wp_block <| sgC fun K21 hK21=>Qaa (.pointer (some ⟨gp,2,none⟩)) 14 rfl kj (Qau 47 _ _ .i64 (2) gp 5 5 33 rfl kj kj kj kj (by decide)) ?_
  have r1_5:=(ExtB.row q5 r1_4 (Qag r1_2 lm))
  refine Qaa (.slice a_y2 y2.length c_y2) 15 rfl kj (Qah 33 _ gp 2 33 _ (.slice a_y2 y2.length c_y2) _ r1_5 rfl kj kj kj) <| sg 1 kj <| sgN hK21 <| Qac <| sg 2 kj <| Qat (fun v W'=>v=.tuple #[]∧ExtB gm W5 W'∧Mk gm (rOf key) (sOf key) (y0++y1++y2) W') 143 #[.pointer (some ⟨gm,0,none⟩),.slice a_y2 y2.length c_y2] 18 rfl kj kj ((addC gm (rOf key) (sOf key) (y0++y1) y2 _ B _ (QeR key hkl hkb) (qT hB hgm) (RdK.ext hy2 x5) hb2 hl2 M5).mono fun e w' h=>⟨_,h.1,rfl,h.2⟩) fun v W6 h6=>?_
  obtain ⟨rfl,q6,M6⟩:=h6
  have x6:=ExtB.up x5 q6 hgm
  refine Qae <| hK20 _ _ <| sgA kj ?_
  show Code.rounds _ _ _ 3 _ _
  show Code.wp _ _ (Exit.then (Code.rounds _ _ _ 2) _) _ _
  refine sgB kj <| sgT kj <| wp_seq_k fun K24 hK24=>wp_block <| sgC fun K25 hK25=>Qaa (.pointer (some ⟨gp,3,none⟩)) 14 rfl kj (Qau 47 _ _ .i64 (3) gp 5 5 33 rfl kj kj kj kj (by decide)) ?_
  have r1_6:=(ExtB.row q6 r1_5 (Qag r1_2 lm))
  refine Qaa (.slice a_y3 y3.length c_y3) 15 rfl kj (Qah 33 _ gp 3 33 _ (.slice a_y3 y3.length c_y3) _ r1_6 rfl kj kj kj) <| sg 1 kj <| sgN hK25 <| Qac <| sg 2 kj <| Qat (fun v W'=>v=.tuple #[]∧ExtB gm W6 W'∧Mk gm (rOf key) (sOf key) (y0++y1++y2++y3) W') 143 #[.pointer (some ⟨gm,0,none⟩),.slice a_y3 y3.length c_y3] 18 rfl kj kj ((addC gm (rOf key) (sOf key) (y0++y1++y2) y3 _ B _ (QeR key hkl hkb) (qT hB hgm) (RdK.ext hy3 x6) hb3 hl3 M6).mono fun e w' h=>⟨_,h.1,rfl,h.2⟩) fun v W7 h7=>?_
  obtain ⟨rfl,q7,M7⟩:=h7
  have x7:=ExtB.up x6 q7 hgm
  refine Qae <| hK24 _ _ <| sgA kj ?_
  show Code.rounds _ _ _ 2 _ _
  show Code.wp _ _ (Exit.then (Code.rounds _ _ _ 1) _) _ _
  refine sgB kj <| sgT kj <| wp_seq_k fun K28 hK28=>wp_block <| sgC fun K29 hK29=>Qaa (.pointer (some ⟨gp,4,none⟩)) 14 rfl kj (Qau 47 _ _ .i64 (4) gp 5 5 33 rfl kj kj kj kj (by decide)) <| Qaa (.slice a_y4 y4.length c_y4) 15 rfl kj (Qah 33 _ gp 4 33 _ (.slice a_y4 y4.length c_y4) _ (ExtB.row q7 r1_6 (Qag r1_2 lm)) rfl kj kj kj) <| sg 1 kj <| sgN hK29 <| Qac ?_
  refine sg 2 kj <| Qat (fun v W'=>v=.tuple #[]∧ExtB gm W7 W'∧Mk gm (rOf key) (sOf key) (y0++y1++y2++y3++y4) W') 143 #[.pointer (some ⟨gm,0,none⟩),.slice a_y4 y4.length c_y4] 18 rfl kj kj ((addC gm (rOf key) (sOf key) (y0++y1++y2++y3) y4 _ B _ (QeR key hkl hkb) (qT hB hgm) (RdK.ext hy4 x7) hb4 hl4 M7).mono fun e w' h=>⟨_,h.1,rfl,h.2⟩) fun v W8 h8=>?_
  obtain ⟨rfl,q8,M8⟩:=h8
  refine Qae <| hK28 _ _ <| sgA kj ?_
  show Code.rounds _ _ _ 1 _ _
  show Code.wp _ _ (Exit.then (Code.rounds _ _ _ 0) _) _ _
  refine sgB kj <| wp_seq_k fun K31 hK31=>cond_false kj <| wp_exit <| hK8 _ _ <| sgC fun K32 hK32=>sg 1 kj <| Qat (fun v W'=>v=.agg (ints .u8 (tagV (rOf key) (sOf key) (y0++y1++y2++y3++y4)))∧ExtB gm W8 W') 144 #[.pointer (some ⟨gm,0,none⟩)] 21 rfl kj kj ((endC gm (rOf key) (sOf key) (y0++y1++y2++y3++y4) _ (QeR key hkl hkb) (Qk6 key hkl hkb) M8).mono fun e w' h=>⟨_,h.1,rfl,h.2⟩) fun v W9 h9=>?_
  obtain ⟨rfl,q9⟩:=h9
  have r4_9:=(ExtB.row q9 (ExtB.row q8 (ExtB.row q7 (ExtB.row q6 (ExtB.row q5 (ExtB.row q4 (Qab r4_2 e3) (Qag r4_2 lm)) (Qag r4_2 lm)) (Qag r4_2 lm)) (Qag r4_2 lm)) (Qag r4_2 lm)) (Qag r4_2 lm))
  refine Qal g4 _ (ints .u8 (tagV (rOf key) (sOf key) (y0++y1++y2++y3++y4))) 157 r4_9 rfl kj (Qav 157 _ _ g4 157 _ _ r4_9 rfl kj kj (isz (n:=16) kj ((Qaf _ _).trans (Qa6 _))) (eqsz (n:=16) ((Qaf _ _).trans (List.length_replicate (n:=16))) ((Qaf _ _).trans (Qa6 _))) (QaC _ _)) fun W10 p10 r4_10=>sgN hK32 <| wp_ret ?_
  repeat (first | with_reducible refine goR1 ?_ | with_reducible refine goR2 ?_)
  exact (show bodyPost _ _ _ .ret _ _ from ret1 (.agg (ints .u8 (tagV (rOf key) (sOf key) (y0++y1++y2++y3++y4)))) rfl (Qbq g4 157 _ r4_10 kj kj (isz (n:=16) kj ((Qaf _ _).trans (Qa6 _)))) ⟨rfl,(Puts.ext p10 (ExtB.up (ExtB.up x7 q8 hgm) q9 hgm) (qT x1.size l4))⟩)
end Go.Proofs.YtoiendjhplbjjaaDoor.Ae
end
section
namespace Go.Proofs.YtoiendjhplbjjaaDoor.Ae
open Go Go.RowKit
open Rely Auto Own Sha
open Sha Cha
theorem Qk7 {P : Program} {ρ:Operand→Value} {o:Oper} {w:World} (t:TypeId) (n:Nat) (parts:Array (Nat×Operand)) (vs:Array (Nat×Value)) (ho:o.op=.buildSlice t n parts) (hv:(parts.map fun (i,x)=>(i,ρ x))=vs) {s:Value} {w':World} (h:(Instr.buildSlice t n vs).run P w=.ok s w') :
    (execOp ρ o).run P w=.ok (.value s) w':=by
  unfold execOp
  simp only [ho,hv,Sem.run_bind,h,Result.andThen_ok,Sem.run_pure]
theorem QjR {P : Program} {ρ:Operand→Value} {o:Oper} {w:World} (t:TypeId) (x:Operand) (n:Nat) (e:TypeId) {a:Option Addr} {len cap:Nat} (ho:o.op=.sliceToArrayPointer t x) (hx:ρ x=.slice a len cap) (hu:P.underlying t=some (.array n e)) (h:n≤len) :
    (execOp ρ o).run P w=.ok (.value (.pointer a)) w:=by
  unfold execOp
  simp [ho,hx,Instr.arrayAt,run_underlying hu,Nat.not_lt.2 h]
theorem QiW {k : IntKind} {xs:List Int} {n:Nat}:∀ j v,(ints k (xs.take n))[j]? = some v→(ints k xs)[0+j]? = some v:=fun j v hv=>by
  rw [Nat.zero_add]
  have hj:j<(xs.take n).length:=by
    have:=(Array.getElem?_eq_some_iff.1 hv).1
    rwa [Qaf] at this
  have hj2:j<n∧j<xs.length:=by rw [List.length_take] at hj; omega
  rw [←hv,QaJ _ _ _ hj,QaJ _ _ _ hj2.2,Qd0 _ _ _ hj2.1]
theorem QfK (ws : List Wd) (n:Int):Qai (QaV ws n):=fun x hx=>by
  unfold QaV Qb4 at hx
  obtain ⟨i,-,rfl⟩:=List.mem_map.1 hx
  omega
def otk (key nonce:List Int):List Int:=(QaV (QaF key nonce) 0).take 32
theorem QdB (key nonce:List Int):(otk key nonce).length=32:=by unfold otk; rw [List.length_take,Qbd]; rfl
theorem QfL (key nonce:List Int):Qai (otk key nonce):=Qa4 (QfK _ _) 32
def padV (xs : List Int):List Int:=List.replicate ((16-xs.length%16)%16) 0
theorem Qet (xs : List Int):(padV xs).length=(16-xs.length%16)%16:=List.length_replicate
theorem Qdy (xs : List Int):Qai (padV xs):=fun x hx=>by
  have:=List.eq_of_mem_replicate hx
  subst this
  exact ⟨by decide,by decide⟩
def QkT (ctx mixed:List Int):List Int:=ctx++padV ctx++mixed++padV mixed++(by8 ((ctx.length:Nat):Int)++by8 ((mixed.length:Nat):Int))
def Qbx (key nonce ctx mixed:List Int):List Int:=tagV (rOf (otk key nonce)) (sOf (otk key nonce)) (QkT ctx mixed)
theorem QaO (key nonce ctx mixed:List Int):(Qbx key nonce ctx mixed).length=16:=Qa6 _
theorem Qjp (n0 : Nat) (xs:List Int) (v:Value) (B:Nat) (w:World) (h:RdK .u8 B xs v w) (hn0:n0≤w.heap.size):Calls Tryd.prog 126 #[v] w (QbD w (OwnN .u8 5 n0 (padV xs))) :=
  (Qkz xs v B w h).mono fun e W' hg=>by
    obtain ⟨v',e1,e2,e3⟩:=hg
    exact ⟨v',e1,e2,e3.base hn0⟩
set_option maxRecDepth 100000 in
theorem Qgk (key nonce ctx mixed:List Int) (v v2 v3:Value) (B B2 B3:Nat) (th tq:TypeId) (w:World) (hh:w.heap[2]? = some (.cells (ints .u32 [1634760805,857760878,2036477234,1797285236]) th)) (hq:w.heap[3]? = some (.cells (ints .i64 [0,4,8,12,1,5,9,13,2,6,10,14,3,7,11,15,0,5,10,15,1,6,11,12,2,7,8,13,3,4,9,14]) tq)) (hkl:key.length=32) (hn:RdK .u8 B nonce v w) (hc:RdK .u8 B2 ctx v2 w) (hm:RdK .u8 B3 mixed v3 w) (h:nonce.length=12) (hcb:Qai ctx) (hmb:Qai mixed) (hcl:ctx.length≤2000000) (hml:mixed.length≤2000000) :
  Calls Tryd.prog 104 #[.agg (ints .u8 key),v,v2,v3] w (Ret w (.tuple #[.agg (ints .u8 (Qbx key nonce ctx mixed)),.nilIface])):=by
 obtain ⟨a_n,c_n,rfl,-⟩:=id hn
 obtain ⟨a_c,c_c,rfl,-⟩:=id hc
 obtain ⟨a_m,c_m,rfl,-⟩:=id hm
 refine enter 42 [(0,.agg (ints .u8 (key))),(1,.slice a_n nonce.length c_n),(2,.slice a_c ctx.length c_c),(3,.slice a_m mixed.length c_m)] Tryd.func104 rfl rfl kj rfl <| sgC fun K3 hK3=>Qas (ints .u8 (key)) 23 4 rfl kj kj fun g4 W1 l4 e1 r4_1=>?_
 have x1:=Ext.tr (Rely.Ext.refl w) e1
 have b4:=qT (Rely.Ext.refl w).size l4
 refine Qas (ints .u8 (List.replicate 16 0)) 157 8 rfl kj kj fun g5 W2 l5 e2 r5_2=>?_
 have x2:=Ext.tr x1 e2
 refine sg 1 kj <| sgN hK3 <| sgC fun K6 hK6=>Qaa (.agg (ints .u8 (key))) 14 rfl kj (Qao 23 _ g4 23 _ _ (Qab r4_1 e2) rfl kj kj (isz (n:=32) kj ((Qaf _ _).trans hkl))) <| sg 1 kj <| Qan (.tuple #[.agg (ints .u8 (QaV (QaF key nonce) (0))),.nilIface]) 124 #[.agg (ints .u8 (key)),.slice a_n nonce.length c_n,.int .i64 0] 16 rfl kj kj ((Qkw key nonce _ _ 0 th tq _ (Qab (Qab hh e1) e2) (Qab (Qab hq e1) e2) hkl (RdK.ext hn x2) h (by decide) (by decide))) fun W3 e3=>?_
 have x3:=Ext.tr x2 e3
 refine sg 3 kj <| Qas (ints .u8 (List.replicate 64 0)) 164 10 rfl kj kj fun g7 W4 l7 e4 r7_4=>Qal g7 _ (ints .u8 (QaV (QaF key nonce) (0))) 164 r7_4 rfl kj (Qav 164 _ _ g7 164 _ _ r7_4 rfl kj kj (isz (n:=64) kj ((Qaf _ _).trans (Qbd _ _))) (eqsz (n:=64) ((Qaf _ _).trans (List.length_replicate (n:=64))) ((Qaf _ _).trans (Qbd _ _))) (QaC _ _)) fun W5 p5 r7_5=>?_
 have x5:=Puts.ext p5 (Ext.tr x3 e4) (qT x3.size l7)
 refine sg 1 kj <| sgN hK6 <| wp_seq_k fun K8 hK8=>sgB kj <| cond_false kj <| wp_skip <| hK8 _ _ <| sgC fun K10 hK10=>sg 2 kj <| Qat (fun v W'=>(OwnN .u8 5 W5.heap.size (by8 ((ctx.length:Nat):Int))) v W'∧Ext W5 W') 112 #[.int .i64 ((ctx.length:Nat):Int)] 25 rfl kj kj ((Qgn (ctx.length) _).mono (by rintro e w' ⟨v,rfl,e1,hv⟩; exact ⟨v,rfl,hv,e1⟩)) fun vv11 W6 hh11=>?_
 obtain ⟨hv11,e6⟩:=hh11
 obtain ⟨a25_,c25_,rfl,-⟩:=id (OwnN.rd hv11)
 refine sg 2 kj <| Qat (fun v W'=>(OwnN .u8 5 W6.heap.size (by8 ((mixed.length:Nat):Int))) v W'∧Ext W6 W') 112 #[.int .i64 ((mixed.length:Nat):Int)] 28 rfl kj kj ((Qgn (mixed.length) _).mono (by rintro e w' ⟨v,rfl,e1,hv⟩; exact ⟨v,rfl,hv,e1⟩)) fun vv12 W7 hh12=>?_
 obtain ⟨hv12,e7⟩:=hh12
 obtain ⟨a28_,c28_,rfl,-⟩:=id (OwnN.rd hv12)
 refine Qa9 (k:=.u8) (T:=5) (xs:=by8 ((ctx.length:Nat):Int)) (ys:=by8 ((mixed.length:Nat):Int)) (V:=W5) 1 (.tmp 25) (.tmp 28) 33 rfl kj kj (by decide) 29 rfl kj kj kj (hv11.ext e7) (OwnN.rd hv12) (by rw [QbB,QbB]; decide) (Rely.Ext.trans (Rely.Ext.trans (Rely.Ext.refl W5) e6) e7) fun zl W8 f14 y8 l8=>?_
 have x8:=Ext.low (Ext.tr (Ext.tr x5 e6) e7) l8 x5.size
 obtain ⟨a29_,c29_,rfl,-⟩:=id (OwnN.rd f14)
 refine sg 1 kj <| sgN hK10 <| wp_seq_k fun K16 hK16=>QaL 11 [⟨none,[(10,none)]⟩,⟨none,[(30,some 0)]⟩,⟨none,[(31,some 1)]⟩,⟨none,[(2,none)]⟩,⟨none,[(2,none)]⟩,⟨none,[(34,some 4)]⟩,⟨none,[(3,none)]⟩,⟨none,[(3,none)]⟩,⟨none,[(37,some 7)]⟩,⟨none,[(12,none)]⟩,⟨none,[(33,some 3),(35,some 5),(36,some 6),(38,some 8),(39,some 9)]⟩] kj kj fun F hF=>Qay (Qaj _) (.slice (some ⟨g7,0+0,none⟩) (32-0) (64-0)) kj kj (fun W=>(QbA 164 _ _ _ 0 32 64 g7 0 5 rfl kj kj kj rfl ⟨.i64,by kernel_rfl⟩ (by omega) (by omega) (by omega))) <| Qay (Qaj _) (.pointer (some ⟨g7,0,none⟩)) kj kj (fun W=>(QjR 23 _ 32 5 (len:=32) (cap:=64) rfl kj kj (by decide))) <| Qbi (Qaj _) (.agg (ints .u8 (otk key nonce))) kj kj (fun W hR=>(QaS 23 _ g7 0 164 _ (ints .u8 (otk key nonce)) _ (Qab (Qab (Qbw l8 (Qab (Qab r7_5 e6) e7) (Qa0 r7_5)) (Qak _)) hR) rfl kj (QiW (xs:=QaV (QaF key nonce) (0)) (n:=32)) kj (isz (n:=32) kj ((Qaf _ _).trans (QdB _ _))))) <| Qay (Qaj _) (.slice a_c ctx.length c_c) kj kj (fun W=>by kernel_rfl) <| Qay (Qaj _) (.slice a_c ctx.length c_c) kj kj (fun W=>by kernel_rfl) <| QcM (Qaj _) (OwnN .u8 5 W8.heap.size (padV ctx)) (OwnN.stable _ _ _ _) 126 #[.slice a_c ctx.length c_c] kj kj (fun W=>by kernel_rfl) (fun W hR=>(Qjp W8.heap.size ctx _ _ _ (RdK.ext (RdK.ext hc x8) (Rely.Ext.trans (Qak _) hR)) (Rely.Ext.trans (Qak _) hR).size)) ?_
 refine Qay (Qaj _) (.slice a_m mixed.length c_m) kj kj (fun W=>by kernel_rfl) <| Qay (Qaj _) (.slice a_m mixed.length c_m) kj kj (fun W=>by kernel_rfl) <| QcM (Qaj _) (OwnN .u8 5 W8.heap.size (padV mixed)) (OwnN.stable _ _ _ _) 126 #[.slice a_m mixed.length c_m] kj kj (fun W=>by kernel_rfl) (fun W hR=>(Qjp W8.heap.size mixed _ _ _ (RdK.ext (RdK.ext hm x8) (Rely.Ext.trans (Qak _) hR)) (Rely.Ext.trans (Qak _) hR).size)) <| Qay (Qaj _) (.slice a29_ ((by8 ((ctx.length:Nat):Int)++by8 ((mixed.length:Nat):Int)).length) c29_) kj kj (fun W=>by kernel_rfl) <| Qb6 (Qaj _) (fun v W=>∃ g za35_19 za38_19,v=.slice (some ⟨g,0,none⟩) 5 5∧W8.heap.size≤g∧W.heap[g]? = some (.cells #[.slice a_c ctx.length c_c,za35_19,.slice a_m mixed.length c_m,za38_19,.slice a29_ ((by8 ((ctx.length:Nat):Int)++by8 ((mixed.length:Nat):Int)).length) c29_] 33)∧(OwnN .u8 5 W8.heap.size (padV ctx)) za35_19 W∧(OwnN .u8 5 W8.heap.size (padV mixed)) za38_19 W) (fun _ _ _ hR ⟨g,za35_19,za38_19,h1,h2,h3,qza35_19,qza38_19⟩=>⟨g,za35_19,za38_19,h1,h2,Qab h3 hR,(OwnN.stable _ _ _ _) _ _ _ hR qza35_19,(OwnN.stable _ _ _ _) _ _ _ hR qza38_19⟩) (fun ρ W hR hh=>?_) ?_
 ·skip
  have e33:ρ 33=.slice a_c ctx.length c_c:=hh.1
  obtain ⟨ar35,cr35,e35,-⟩:=id (OwnN.rd hh.2.1)
  have e36:ρ 36=.slice a_m mixed.length c_m:=hh.2.2.1
  obtain ⟨ar38,cr38,e38,-⟩:=id (OwnN.rd hh.2.2.2.1)
  have e39:ρ 39=.slice a29_ ((by8 ((ctx.length:Nat):Int)++by8 ((mixed.length:Nat):Int)).length) c29_:=hh.2.2.2.2.1
  refine ⟨_,_,Qk7 47 5 _ _ rfl (Eq.trans (b:=#[(0,ρ 33),(1,ρ 35),(2,ρ 36),(3,ρ 38),(4,ρ 39)]) kj (by rw [e33,e35,e36,e38,e39])) (s:=.slice (some ⟨W.heap.size,0,none⟩) 5 5) (w':=W.alloc (.cells #[.slice a_c ctx.length c_c,.slice ar35 (padV ctx).length cr35,.slice a_m mixed.length c_m,.slice ar38 (padV mixed).length cr38,.slice a29_ ((by8 ((ctx.length:Nat):Int)++by8 ((mixed.length:Nat):Int)).length) c29_] 33)) kj,QbU _ _,⟨W.heap.size,ρ 35,ρ 38,rfl,(Rely.Ext.trans (Qak _) hR).size,?_,(OwnN.stable _ _ _ _) _ _ _ (QbU _ _) hh.2.1,(OwnN.stable _ _ _ _) _ _ _ (QbU _ _) hh.2.2.2.1⟩⟩
  rw [e35,e38]; exact heap_alloc_new _ _
 refine Qck (hF _ fun W9 e9=>?_)
 simp only [List.nil_append,List.cons_append,List.take_succ_cons,List.take_zero,List.drop_succ_cons,List.drop_zero,finE,up]
 intro vv17 hv17 vv18 hv18 vv19 hv19
 clear hF
 have x9:=Ext.tr x8 e9
 obtain ⟨g20,za35_19,za38_19,rfl,l20,r20_9,qza35_19,qza38_19⟩:=hv19
 have b20:=qT x8.size l20
 obtain ⟨a35b_,c35b_,rfl,-⟩:=id (OwnN.rd qza35_19)
 obtain ⟨a38b_,c38b_,rfl,-⟩:=id (OwnN.rd qza38_19)
 refine Qan (.agg (ints .u8 (Qbx key nonce ctx mixed))) 125 #[.agg (ints .u8 (otk key nonce)),.slice (some ⟨g20,0,none⟩) 5 5] 41 rfl kj kj ((QkL (otk key nonce) ctx (padV ctx) mixed (padV mixed) (by8 ((ctx.length:Nat):Int)++by8 ((mixed.length:Nat):Int)) _ _ _ _ _ _ _ _ (QdB _ _) (QfL _ _) (qR _) (RdK.here (RdK.ext hc x9)) hcb (by omega) (RdK.here (OwnN.rd qza35_19)) (Qdy _) (by rw [Qet]; omega) (RdK.here (RdK.ext hm x9)) hmb (by omega) (RdK.here (OwnN.rd qza38_19)) (Qdy _) (by rw [Qet]; omega) (RdK.here (OwnN.rd (f14.ext e9))) (QaR (Qds _) (Qds _)) (by rw [List.length_append,QbB,QbB]; decide) r20_9)) fun W10 e10=>?_
 have r5_3:=(Qab r5_2 e3)
 have r5_5:=(Puts.row p5 (Qab r5_3 e4) (Qag r5_3 l7))
 have r5_10:=(Qab (Qab (Qbw l8 (Qab (Qab r5_5 e6) e7) (Qa0 r5_5)) e9) e10)
 refine Qal g5 _ (ints .u8 (Qbx key nonce ctx mixed)) 157 r5_10 rfl kj (Qav 157 _ _ g5 157 _ _ r5_10 rfl kj kj (isz (n:=16) kj ((Qaf _ _).trans (QaO _ _ _ _))) (eqsz (n:=16) ((Qaf _ _).trans (List.length_replicate (n:=16))) ((Qaf _ _).trans (QaO _ _ _ _))) (QaC _ _)) fun W11 p11 r5_11=>sg 1 kj <| sgN hK16 <| wp_ret ?_
 repeat (first | with_reducible refine goR1 ?_ | with_reducible refine goR2 ?_)
 exact (show bodyPost _ _ _ .ret _ _ from ret2 (.agg (ints .u8 (Qbx key nonce ctx mixed))) (.nilIface) rfl (Qbq g5 157 _ r5_11 kj kj (isz (n:=16) kj ((Qaf _ _).trans (QaO _ _ _ _)))) (Qaq kj) ⟨rfl,(Puts.ext p11 (Ext.tr x9 e10) (qT x1.size l5))⟩)
end Go.Proofs.YtoiendjhplbjjaaDoor.Ae
end
section
namespace Go.Proofs.YtoiendjhplbjjaaDoor.Ae
open Go Go.RowKit
open Rely Auto Own Sha
open Sha Cha
def QeG (key nonce ctx text:List Int):List Int:=mixV (QaF key nonce) 1 text++Qbx key nonce ctx (mixV (QaF key nonce) 1 text)
theorem Qe2 (key nonce ctx text:List Int):(QeG key nonce ctx text).length=text.length+16:=by unfold QeG; rw [List.length_append,Qd2,QaO]
theorem QiF (xs ys:List Int) (v v2:Value) (B B2:Nat) (w:World) (e:xs=ys) (hx:RdK .u8 B xs v w) (hy:RdK .u8 B2 ys v2 w) (hxb:Qai xs) (hyb:Qai ys) (hl:ys.length=xs.length) (hxl:xs.length≤2000000):Calls Tryd.prog 107 #[v,v2] w (Ret w (.bool true)):=by
  have h:=Qjv xs ys v v2 B B2 w hx hy hxb hyb hl hxl
  rw [decide_eq_true e] at h
  exact h
theorem QjQ (xs ys:List Int) (v v2:Value) (B B2:Nat) (w:World) (e:xs≠ys) (hx:RdK .u8 B xs v w) (hy:RdK .u8 B2 ys v2 w) (hxb:Qai xs) (hyb:Qai ys) (hl:ys.length=xs.length) (hxl:xs.length≤2000000):Calls Tryd.prog 107 #[v,v2] w (Ret w (.bool false)):=by
  have h:=Qjv xs ys v v2 B B2 w hx hy hxb hyb hl hxl
  rw [decide_eq_false e] at h
  exact h
theorem Qcb (key nonce ctx mixed:List Int):Qai (Qbx key nonce ctx mixed):=Qh3 _
theorem QfZ (key nonce ctx text:List Int):Qai (QeG key nonce ctx text):=QaR (Qd3 _ _ _) (Qcb _ _ _ _)
theorem MixE (key nonce text fm:List Int) (v v2:Value) (B B2:Nat) (th tq:TypeId) (w:World) (hh:w.heap[2]? = some (.cells (ints .u32 [1634760805,857760878,2036477234,1797285236]) th)) (hq:w.heap[3]? = some (.cells (ints .i64 [0,4,8,12,1,5,9,13,2,6,10,14,3,7,11,15,0,5,10,15,1,6,11,12,2,7,8,13,3,4,9,14]) tq)) (hkl:key.length=32) (hn:RdK .u8 B nonce v w) (ht:RdK .u8 B2 text v2 w) (h:nonce.length=12) (hl:text.length≤2000000) (em:mixV (QaF key nonce) 1 text=fm) :
    Calls Tryd.prog 103 #[.agg (ints .u8 key),v,.int .i64 1,v2] w (QbD w (MixR w.heap.size fm)):=by
  subst em
  exact MixG w.heap.size key nonce text v v2 B B2 1 th tq w hh hq hkl hn ht h 4294967295 (by decide) (by decide) (by decide) (by omega) hl (qR _)
set_option maxRecDepth 100000 in
theorem QkV (key nonce ctx text:List Int) (v v2 v3:Value) (B B2 B3:Nat) (th tq:TypeId) (w:World) (hh:w.heap[2]? = some (.cells (ints .u32 [1634760805,857760878,2036477234,1797285236]) th)) (hq:w.heap[3]? = some (.cells (ints .i64 [0,4,8,12,1,5,9,13,2,6,10,14,3,7,11,15,0,5,10,15,1,6,11,12,2,7,8,13,3,4,9,14]) tq)) (hkl:key.length=32) (hn:RdK .u8 B nonce v w) (hc:RdK .u8 B2 ctx v2 w) (ht:RdK .u8 B3 text v3 w) (hcb:Qai ctx) (h:nonce.length=12) (hcl:ctx.length≤1048576) (hxl:text.length≤1048576) :
    Calls Tryd.prog 71 #[.agg (ints .u8 key),v,v2,v3] w (QbD w (MixR w.heap.size (QeG key nonce ctx text))):=by
  obtain ⟨a_n,c_n,rfl,-⟩:=id hn
  obtain ⟨a_c,c_c,rfl,-⟩:=id hc
  obtain ⟨a_t,c_t,rfl,-⟩:=id ht
  obtain ⟨fm,em⟩:∃ z:List Int,mixV (QaF key nonce) 1 text=z:=⟨_,rfl⟩
  have lfm:fm.length=text.length:=by rw [←em,Qd2]
  have hfb:Qai fm:=by rw [←em]; exact Qd3 _ _ _
  refine enter 51 [(0,.agg (ints .u8 (key))),(1,.slice a_n nonce.length c_n),(2,.slice a_c ctx.length c_c),(3,.slice a_t text.length c_t)] Tryd.func71 rfl rfl kj rfl <| sgC fun K3 hK3=>Qas (ints .u8 (key)) 23 4 rfl kj kj fun g4 W1 l4 e1 r4_1=>?_
  have x1:=Ext.tr (Rely.Ext.refl w) e1
  have b4:=qT (Rely.Ext.refl w).size l4
  refine sg 2 kj <| sgN hK3 <| wp_seq_k fun K5 hK5=>sgC fun K6 hK6=>sg 2 kj <| Qaa (.bool false) 15 rfl kj (Qad (u:=.bool ((((nonce.length:Nat):Int) != 12))) kj (congrArg Value.bool (by rw [h]; rfl))) ?_
  refine sg 3 kj <| Qaa (.bool false) 19 rfl kj (Qad (u:=.bool (decide (((ctx.length:Nat):Int)>1048576))) kj (congrArg Value.bool (decide_eq_false (by omega)))) <| sg 4 kj <| Qaa (.bool false) 24 rfl kj (Qad (u:=.bool (decide (((text.length:Nat):Int)>1048576))) kj (congrArg Value.bool (decide_eq_false (by omega)))) <| sg 1 kj <| sgN hK6 <| cond_false kj <| wp_skip <| hK5 _ _ <| sgC fun K7 hK7=>?_
  refine Qaa (.agg (ints .u8 (key))) 28 rfl kj (Qao 23 _ g4 23 _ _ r4_1 rfl kj kj (isz (n:=32) kj ((Qaf _ _).trans hkl))) <| sg 2 kj ?_
  have r2_1:=(Qab hh e1)
  have r1_1:=(Qab hq e1)
  refine Qat (fun v W'=>(MixR W1.heap.size (fm)) v W'∧Ext W1 W') 103 #[.agg (ints .u8 (key)),.slice a_n nonce.length c_n,.int .i64 1,.slice a_t text.length c_t] 31 rfl kj kj ((MixE key nonce (text) (fm) _ _ _ _ th tq _ r2_1 r1_1 hkl (RdK.ext hn x1) (RdK.ext ht x1) h (by omega) em).mono (by rintro e w' ⟨v,rfl,e1,hv⟩; exact ⟨v,rfl,hv,e1⟩)) fun vv8 W2 hh8=>?_
  obtain ⟨hv8,e2⟩:=hh8
  have x2:=Ext.tr x1 e2
  obtain ⟨u31_,rfl,hu31_⟩:=hv8
  obtain ⟨a31_,c31_,rfl,-⟩:=id (OwnN.rd hu31_)
  refine sg 5 kj <| sgN hK7 <| wp_seq_k fun K9 hK9=>sgB kj <| cond_false kj <| wp_skip <| hK9 _ _ <| sgC fun K11 hK11=>Qaa (.agg (ints .u8 (key))) 38 rfl kj (Qao 23 _ g4 23 _ _ (Qab r4_1 e2) rfl kj kj (isz (n:=32) kj ((Qaf _ _).trans hkl))) <| sg 3 kj ?_
  refine Qan (.tuple #[.agg (ints .u8 (Qbx key nonce ctx fm)),.nilIface]) 104 #[.agg (ints .u8 (key)),.slice a_n nonce.length c_n,.slice a_c ctx.length c_c,.slice a31_ ((fm).length) c31_] 42 rfl kj kj ((Qgk key nonce ctx fm _ _ _ _ _ _ th tq _ (Qab r2_1 e2) (Qab r1_1 e2) hkl (RdK.ext hn x2) (RdK.ext hc x2) (OwnN.rd hu31_) h hcb hfb (by omega) (by omega))) fun W3 e3=>?_
  have x3:=Ext.tr x2 e3
  refine sg 3 kj <| Qas (ints .u8 (List.replicate 16 0)) 157 12 rfl kj kj fun g12 W4 l12 e4 r12_4=>Qal g12 _ (ints .u8 (Qbx key nonce ctx fm)) 157 r12_4 rfl kj (Qav 157 _ _ g12 157 _ _ r12_4 rfl kj kj (isz (n:=16) kj ((Qaf _ _).trans (QaO _ _ _ _))) (eqsz (n:=16) ((Qaf _ _).trans (List.length_replicate (n:=16))) ((Qaf _ _).trans (QaO _ _ _ _))) (QaC _ _)) fun W5 p5 r12_5=>sg 1 kj <| sgN hK11 <| wp_seq_k fun K13 hK13=>sgB kj <| cond_false kj <| wp_skip <| hK13 _ _ ?_
  refine sgC fun K15 hK15=>sg 2 kj ?_
  have f16_3:=(hu31_.ext e3)
  have y1_3:=(Rely.Ext.trans (Rely.Ext.trans (Rely.Ext.refl W1) e2) e3)
  refine Qa9 (k:=.u8) (T:=5) (xs:=fm) (ys:=Qbx key nonce ctx fm) (V:=W1) 1 (.tmp 48) (.tmp 49) 33 rfl kj kj (by decide) 50 rfl kj kj kj ((f16_3.ext e4).puts p5 (QeV f16_3 l12)) (QaM (xs:=Qbx key nonce ctx fm) (n:=16) (QaO _ _ _ _) r12_5 (Qa0 r12_5) (show 16≤maxLen from by decide)) (by rw [QaO]; omega) (Puts.ext p5 (Rely.Ext.trans y1_3 e4) (qT y1_3.size l12)) fun zs W6 f19 y6 l6=>?_
  refine sg 2 kj <| sgN hK15 <| wp_ret ?_
  repeat (first | with_reducible refine goR1 ?_ | with_reducible refine goR2 ?_)
  exact (show bodyPost _ _ _ .ret _ _ from ret2 (zs) (.nilIface) rfl (Qaq kj) (Qaq kj) ⟨_,rfl,(Ext.low (Puts.ext p5 (Ext.tr x3 e4) (qT x3.size l12)) l6 x1.size),zs,rfl,by unfold QeG; rw [em]; exact OwnN.base x1.size f19⟩)
end Go.Proofs.YtoiendjhplbjjaaDoor.Ae
end
section
namespace Go.Proofs.YtoiendjhplbjjaaDoor.Ae
open Go Go.RowKit
open Rely Auto Own Sha
open Sha Cha
theorem QcW (n : Nat) (h:16≤n) (hm:n≤maxLen):IntKind.i64.wrap (((n:Nat):Int)-16)=((n-16:Nat):Int):=by
  rw [show ((n:Nat):Int)-16=((n-16:Nat):Int) by omega]
  exact IntWalk.i64_in _ (by rw [maxLen] at hm; omega)
set_option maxRecDepth 100000 in
theorem QkW (key nonce ctx sl:List Int) (v v2 v3:Value) (B B2 B3:Nat) (th tq:TypeId) (w:World) (hh:w.heap[2]? = some (.cells (ints .u32 [1634760805,857760878,2036477234,1797285236]) th)) (hq:w.heap[3]? = some (.cells (ints .i64 [0,4,8,12,1,5,9,13,2,6,10,14,3,7,11,15,0,5,10,15,1,6,11,12,2,7,8,13,3,4,9,14]) tq)) (hkl:key.length=32) (hn:RdK .u8 B nonce v w) (hc:RdK .u8 B2 ctx v2 w) (ht:RdK .u8 B3 sl v3 w) (hcb:Qai ctx) (htb:Qai sl) (h:nonce.length=12) (hcl:ctx.length≤1048592) (hxl:sl.length≤1048592) (hsh:16≤sl.length) (hne:Qbx key nonce ctx (sl.take (sl.length-16))≠sl.drop (sl.length-16)) :
    Calls Tryd.prog 74 #[.agg (ints .u8 key),v,v2,v3] w (Ret w (.tuple #[.slice none 0 0,.iface 60 (.int .i64 2)])):=by
  obtain ⟨a_n,c_n,rfl,-⟩:=id hn
  obtain ⟨a_c,c_c,rfl,-⟩:=id hc
  obtain ⟨a_t,c_t,rfl,-⟩:=id ht
  have ctk:sl.length≤c_t:=by
    obtain ⟨_,_,e,q2,_⟩:=id ht
    simp only [Value.slice.injEq] at e
    obtain ⟨-,-,rfl⟩:=e
    exact q2
  have htm:sl.length≤maxLen:=RdK.len ht
  have hlt_:(sl.take (sl.length-16)).length=sl.length-16:=by rw [List.length_take]; omega
  refine enter 64 [(0,.agg (ints .u8 (key))),(1,.slice a_n nonce.length c_n),(2,.slice a_c ctx.length c_c),(3,.slice a_t sl.length c_t)] Tryd.func74 rfl rfl kj rfl <| sgC fun K3 hK3=>Qas (ints .u8 (key)) 23 4 rfl kj kj fun g4 W1 l4 e1 r4_1=>?_
  have b4:=qT (Rely.Ext.refl w).size l4
  refine sg 2 kj <| sgN hK3 <| wp_seq_k fun K5 hK5=>sgC fun K6 hK6=>sg 2 kj <| Qaa (.bool false) 16 rfl kj (Qad (u:=.bool ((((nonce.length:Nat):Int) != 12))) kj (congrArg Value.bool (by rw [h]; rfl))) ?_
  refine sg 3 kj <| Qaa (.bool false) 20 rfl kj (Qad (u:=.bool (decide (((ctx.length:Nat):Int)>1048592))) kj (congrArg Value.bool (decide_eq_false (by omega)))) <| sg 4 kj <| Qaa (.bool false) 25 rfl kj (Qad (u:=.bool (decide (((sl.length:Nat):Int)>1048592))) kj (congrArg Value.bool (decide_eq_false (by omega)))) <| sg 1 kj <| sgN hK6 <| cond_false kj <| wp_skip <| hK5 _ _ <| wp_seq_k fun K7 hK7=>?_
  refine sgC fun K8 hK8=>sg 2 kj <| Qaa (.bool false) 30 rfl kj (Qad (u:=.bool (decide (((sl.length:Nat):Int)<16))) kj (congrArg Value.bool (decide_eq_false (by omega)))) <| sgN hK8 <| cond_false kj <| wp_skip <| hK7 _ _ <| wp_seq_k fun K9 hK9=>QaL 11 [⟨none,[(3,none)]⟩,⟨none,[(3,none)]⟩,⟨none,[(33,some 1)]⟩,⟨none,[(34,some 2)]⟩,⟨none,[(32,some 0),(35,some 3)]⟩,⟨none,[(3,none)]⟩,⟨none,[(3,none)]⟩,⟨none,[(38,some 6)]⟩,⟨none,[(39,some 7)]⟩,⟨none,[(37,some 5),(40,some 8)]⟩,⟨none,[(36,some 4)]⟩] kj kj fun F hF=>Qay (Qaj _) (.slice a_t sl.length c_t) kj kj (fun W=>by kernel_rfl) ?_
  refine Qay (Qaj _) (.slice a_t sl.length c_t) kj kj (fun W=>by kernel_rfl) <| Qay (Qaj _) (.int .i64 ((sl.length:Nat):Int)) kj kj (fun W=>by kernel_rfl) <| Qay (Qaj _) (.int .i64 (((sl.length-16:Nat):Int))) kj kj (fun W=>(Qad (u:=.int .i64 (IntKind.i64.wrap (((sl.length:Nat):Int)-16))) kj (congrArg (Value.int .i64) (QcW _ hsh htm)))) <| Qay (Qaj _) (.slice a_t (sl.length-16) c_t) kj kj (fun W=>(Qbl (len:=sl.length) 33 _ _ (sl.length-16) 5 rfl kj kj kj .i64 kj (qT (Nat.sub_le _ _) ctk))) <| Qay (Qaj _) (.slice a_t sl.length c_t) kj kj (fun W=>by kernel_rfl) <| Qay (Qaj _) (.slice a_t sl.length c_t) kj kj (fun W=>by kernel_rfl) <| Qay (Qaj _) (.int .i64 ((sl.length:Nat):Int)) kj kj (fun W=>by kernel_rfl) <| Qay (Qaj _) (.int .i64 (((sl.length-16:Nat):Int))) kj kj (fun W=>(Qad (u:=.int .i64 (IntKind.i64.wrap (((sl.length:Nat):Int)-16))) kj (congrArg (Value.int .i64) (QcW _ hsh htm)))) <| Qay (Qaj _) (.slice (QbN a_t c_t (sl.length-16)) (sl.length-(sl.length-16)) (c_t-(sl.length-16))) kj kj (fun W=>(QbH 33 _ _ (sl.length-16) 5 rfl kj kj kj .i64 kj (Nat.sub_le _ _) ctk)) <| Qay (Qaj _) (.slice a_t (sl.length-16) c_t) kj kj (fun W=>by kernel_rfl) ?_
  refine Qck (hF _ fun W2 e2=>?_)
  simp only [List.nil_append,List.cons_append,List.take_succ_cons,List.take_zero,List.drop_succ_cons,List.drop_zero,finE,up]
  clear hF
  have x2:=Ext.tr (Ext.tr (Rely.Ext.refl w) e1) e2
  refine sg 1 kj <| sgN hK9 <| sgC fun K10 hK10=>Qaa (.agg (ints .u8 (key))) 43 rfl kj (Qao 23 _ g4 23 _ _ (Qab r4_1 e2) rfl kj kj (isz (n:=32) kj ((Qaf _ _).trans hkl))) <| sg 3 kj <| Qan (.tuple #[.agg (ints .u8 (Qbx key nonce ctx (sl.take (sl.length-16)))),.nilIface]) 104 #[.agg (ints .u8 (key)),.slice a_n nonce.length c_n,.slice a_c ctx.length c_c,.slice a_t (sl.length-16) c_t] 47 rfl kj kj ((Qgk key nonce ctx (sl.take (sl.length-16)) _ _ _ _ _ _ th tq _ (Qab (Qab hh e1) e2) (Qab (Qab hq e1) e2) hkl (RdK.ext hn x2) (RdK.ext hc x2) (QbC (RdK.ext ht x2) (sl.length-16) (Nat.sub_le _ _)) h hcb (Qa4 htb _) (by omega) (by omega))) fun W3 e3=>?_
  have x3:=Ext.tr x2 e3
  refine sg 3 kj <| Qas (ints .u8 (List.replicate 16 0)) 157 12 rfl kj kj fun g11 W4 l11 e4 r11_4=>Qal g11 _ (ints .u8 (Qbx key nonce ctx (sl.take (sl.length-16)))) 157 r11_4 rfl kj (Qav 157 _ _ g11 157 _ _ r11_4 rfl kj kj (isz (n:=16) kj ((Qaf _ _).trans (QaO _ _ _ _))) (eqsz (n:=16) ((Qaf _ _).trans (List.length_replicate (n:=16))) ((Qaf _ _).trans (QaO _ _ _ _))) (QaC _ _)) fun W5 p5 r11_5=>?_
  have x5:=Puts.ext p5 (Ext.tr x3 e4) (qT x3.size l11)
  refine sg 1 kj <| sgN hK10 <| wp_seq_k fun K12 hK12=>sgB kj <| cond_false kj <| wp_skip <| hK12 _ _ <| wp_seq_k fun K14 hK14=>sgC fun K15 hK15=>sg 2 kj ?_
  refine Qan (.bool false) 107 #[.slice (some ⟨g11,0,none⟩) 16 16,.slice (QbN a_t c_t (sl.length-16)) (sl.length-(sl.length-16)) (c_t-(sl.length-16))] 55 rfl kj kj ((QjQ (Qbx key nonce ctx (sl.take (sl.length-16))) (sl.drop (sl.length-16)) _ _ W5.heap.size _ W5 hne (QaM (xs:=Qbx key nonce ctx (sl.take (sl.length-16))) (n:=16) (QaO _ _ _ _) r11_5 (Qa0 r11_5) (show 16≤maxLen from by decide)) (Qc1 (RdK.ext ht x5) (sl.length-16) (Nat.sub_le _ _)) (Qcb _ _ _ _) (QaK htb _) (by rw [List.length_drop,QaO]; omega) (by rw [QaO]; decide))) fun W6 e6=>?_
  refine sg 1 kj <| sgN hK15 <| cond_true kj <| sgB kj <| wp_ret ?_
  repeat (first | with_reducible refine goR1 ?_ | with_reducible refine goR2 ?_)
  exact (show bodyPost _ _ _ .ret _ _ from ret2 (.slice none 0 0) (.iface 60 (.int .i64 2)) rfl (Qaq kj) (Qaq kj) ⟨rfl,(Ext.tr x5 e6)⟩)
set_option maxRecDepth 100000 in
theorem QkX (key nonce ctx sl:List Int) (v v2 v3:Value) (B B2 B3:Nat) (th tq:TypeId) (w:World) (hh:w.heap[2]? = some (.cells (ints .u32 [1634760805,857760878,2036477234,1797285236]) th)) (hq:w.heap[3]? = some (.cells (ints .i64 [0,4,8,12,1,5,9,13,2,6,10,14,3,7,11,15,0,5,10,15,1,6,11,12,2,7,8,13,3,4,9,14]) tq)) (hkl:key.length=32) (hn:RdK .u8 B nonce v w) (hc:RdK .u8 B2 ctx v2 w) (ht:RdK .u8 B3 sl v3 w) (hcb:Qai ctx) (htb:Qai sl) (h:nonce.length=12) (hcl:ctx.length≤1048592) (hxl:sl.length≤1048592) (hsh:16≤sl.length) (hne:Qbx key nonce ctx (sl.take (sl.length-16))=sl.drop (sl.length-16)) :
    Calls Tryd.prog 74 #[.agg (ints .u8 key),v,v2,v3] w (QbD w (MixR w.heap.size (mixV (QaF key nonce) 1 (sl.take (sl.length-16))))):=by
  obtain ⟨a_n,c_n,rfl,-⟩:=id hn
  obtain ⟨a_c,c_c,rfl,-⟩:=id hc
  obtain ⟨a_t,c_t,rfl,-⟩:=id ht
  have ctk:sl.length≤c_t:=by
    obtain ⟨_,_,e,q2,_⟩:=id ht
    simp only [Value.slice.injEq] at e
    obtain ⟨-,-,rfl⟩:=e
    exact q2
  have htm:sl.length≤maxLen:=RdK.len ht
  have hlt_:(sl.take (sl.length-16)).length=sl.length-16:=by rw [List.length_take]; omega
  obtain ⟨fm,em⟩:∃ z:List Int,mixV (QaF key nonce) 1 (sl.take (sl.length-16))=z:=⟨_,rfl⟩
  refine enter 64 [(0,.agg (ints .u8 (key))),(1,.slice a_n nonce.length c_n),(2,.slice a_c ctx.length c_c),(3,.slice a_t sl.length c_t)] Tryd.func74 rfl rfl kj rfl <| sgC fun K3 hK3=>Qas (ints .u8 (key)) 23 4 rfl kj kj fun g4 W1 l4 e1 r4_1=>?_
  have b4:=qT (Rely.Ext.refl w).size l4
  refine sg 2 kj <| sgN hK3 <| wp_seq_k fun K5 hK5=>sgC fun K6 hK6=>sg 2 kj <| Qaa (.bool false) 16 rfl kj (Qad (u:=.bool ((((nonce.length:Nat):Int) != 12))) kj (congrArg Value.bool (by rw [h]; rfl))) ?_
  refine sg 3 kj <| Qaa (.bool false) 20 rfl kj (Qad (u:=.bool (decide (((ctx.length:Nat):Int)>1048592))) kj (congrArg Value.bool (decide_eq_false (by omega)))) <| sg 4 kj <| Qaa (.bool false) 25 rfl kj (Qad (u:=.bool (decide (((sl.length:Nat):Int)>1048592))) kj (congrArg Value.bool (decide_eq_false (by omega)))) <| sg 1 kj <| sgN hK6 <| cond_false kj <| wp_skip <| hK5 _ _ <| wp_seq_k fun K7 hK7=>?_
  refine sgC fun K8 hK8=>sg 2 kj <| Qaa (.bool false) 30 rfl kj (Qad (u:=.bool (decide (((sl.length:Nat):Int)<16))) kj (congrArg Value.bool (decide_eq_false (by omega)))) <| sgN hK8 <| cond_false kj <| wp_skip <| hK7 _ _ <| wp_seq_k fun K9 hK9=>QaL 11 [⟨none,[(3,none)]⟩,⟨none,[(3,none)]⟩,⟨none,[(33,some 1)]⟩,⟨none,[(34,some 2)]⟩,⟨none,[(32,some 0),(35,some 3)]⟩,⟨none,[(3,none)]⟩,⟨none,[(3,none)]⟩,⟨none,[(38,some 6)]⟩,⟨none,[(39,some 7)]⟩,⟨none,[(37,some 5),(40,some 8)]⟩,⟨none,[(36,some 4)]⟩] kj kj fun F hF=>Qay (Qaj _) (.slice a_t sl.length c_t) kj kj (fun W=>by kernel_rfl) ?_
  refine Qay (Qaj _) (.slice a_t sl.length c_t) kj kj (fun W=>by kernel_rfl) <| Qay (Qaj _) (.int .i64 ((sl.length:Nat):Int)) kj kj (fun W=>by kernel_rfl) <| Qay (Qaj _) (.int .i64 (((sl.length-16:Nat):Int))) kj kj (fun W=>(Qad (u:=.int .i64 (IntKind.i64.wrap (((sl.length:Nat):Int)-16))) kj (congrArg (Value.int .i64) (QcW _ hsh htm)))) <| Qay (Qaj _) (.slice a_t (sl.length-16) c_t) kj kj (fun W=>(Qbl (len:=sl.length) 33 _ _ (sl.length-16) 5 rfl kj kj kj .i64 kj (qT (Nat.sub_le _ _) ctk))) <| Qay (Qaj _) (.slice a_t sl.length c_t) kj kj (fun W=>by kernel_rfl) <| Qay (Qaj _) (.slice a_t sl.length c_t) kj kj (fun W=>by kernel_rfl) <| Qay (Qaj _) (.int .i64 ((sl.length:Nat):Int)) kj kj (fun W=>by kernel_rfl) <| Qay (Qaj _) (.int .i64 (((sl.length-16:Nat):Int))) kj kj (fun W=>(Qad (u:=.int .i64 (IntKind.i64.wrap (((sl.length:Nat):Int)-16))) kj (congrArg (Value.int .i64) (QcW _ hsh htm)))) <| Qay (Qaj _) (.slice (QbN a_t c_t (sl.length-16)) (sl.length-(sl.length-16)) (c_t-(sl.length-16))) kj kj (fun W=>(QbH 33 _ _ (sl.length-16) 5 rfl kj kj kj .i64 kj (Nat.sub_le _ _) ctk)) <| Qay (Qaj _) (.slice a_t (sl.length-16) c_t) kj kj (fun W=>by kernel_rfl) ?_
  refine Qck (hF _ fun W2 e2=>?_)
  simp only [List.nil_append,List.cons_append,List.take_succ_cons,List.take_zero,List.drop_succ_cons,List.drop_zero,finE,up]
  clear hF
  have x2:=Ext.tr (Ext.tr (Rely.Ext.refl w) e1) e2
  refine sg 1 kj <| sgN hK9 <| sgC fun K10 hK10=>?_
  have r4_2:=(Qab r4_1 e2)
  refine Qaa (.agg (ints .u8 (key))) 43 rfl kj (Qao 23 _ g4 23 _ _ r4_2 rfl kj kj (isz (n:=32) kj ((Qaf _ _).trans hkl))) <| sg 3 kj ?_
  have r2_2:=(Qab (Qab hh e1) e2)
  have r1_2:=(Qab (Qab hq e1) e2)
  refine Qan (.tuple #[.agg (ints .u8 (Qbx key nonce ctx (sl.take (sl.length-16)))),.nilIface]) 104 #[.agg (ints .u8 (key)),.slice a_n nonce.length c_n,.slice a_c ctx.length c_c,.slice a_t (sl.length-16) c_t] 47 rfl kj kj ((Qgk key nonce ctx (sl.take (sl.length-16)) _ _ _ _ _ _ th tq _ r2_2 r1_2 hkl (RdK.ext hn x2) (RdK.ext hc x2) (QbC (RdK.ext ht x2) (sl.length-16) (Nat.sub_le _ _)) h hcb (Qa4 htb _) (by omega) (by omega))) fun W3 e3=>?_
  have x3:=Ext.tr x2 e3
  refine sg 3 kj <| Qas (ints .u8 (List.replicate 16 0)) 157 12 rfl kj kj fun g11 W4 l11 e4 r11_4=>Qal g11 _ (ints .u8 (Qbx key nonce ctx (sl.take (sl.length-16)))) 157 r11_4 rfl kj (Qav 157 _ _ g11 157 _ _ r11_4 rfl kj kj (isz (n:=16) kj ((Qaf _ _).trans (QaO _ _ _ _))) (eqsz (n:=16) ((Qaf _ _).trans (List.length_replicate (n:=16))) ((Qaf _ _).trans (QaO _ _ _ _))) (QaC _ _)) fun W5 p5 r11_5=>?_
  have x5:=Puts.ext p5 (Ext.tr x3 e4) (qT x3.size l11)
  refine sg 1 kj <| sgN hK10 <| wp_seq_k fun K12 hK12=>sgB kj <| cond_false kj <| wp_skip <| hK12 _ _ <| wp_seq_k fun K14 hK14=>sgC fun K15 hK15=>sg 2 kj ?_
  refine Qan (.bool true) 107 #[.slice (some ⟨g11,0,none⟩) 16 16,.slice (QbN a_t c_t (sl.length-16)) (sl.length-(sl.length-16)) (c_t-(sl.length-16))] 55 rfl kj kj ((QiF (Qbx key nonce ctx (sl.take (sl.length-16))) (sl.drop (sl.length-16)) _ _ W5.heap.size _ W5 hne (QaM (xs:=Qbx key nonce ctx (sl.take (sl.length-16))) (n:=16) (QaO _ _ _ _) r11_5 (Qa0 r11_5) (show 16≤maxLen from by decide)) (Qc1 (RdK.ext ht x5) (sl.length-16) (Nat.sub_le _ _)) (Qcb _ _ _ _) (QaK htb _) (by rw [List.length_drop,QaO]; omega) (by rw [QaO]; decide))) fun W6 e6=>?_
  have x6:=Ext.tr x5 e6
  refine sg 1 kj <| sgN hK15 <| cond_false kj <| wp_skip <| hK14 _ _ <| sgC fun K16 hK16=>?_
  have r4_3:=(Qab r4_2 e3)
  refine Qaa (.agg (ints .u8 (key))) 58 rfl kj (Qao 23 _ g4 23 _ _ (Qab (Puts.row p5 (Qab r4_3 e4) (Qag r4_3 l11)) e6) rfl kj kj (isz (n:=32) kj ((Qaf _ _).trans hkl))) <| sg 2 kj ?_
  have r2_3:=(Qab r2_2 e3)
  have r1_3:=(Qab r1_2 e3)
  refine Qat (fun v W'=>(MixR W6.heap.size (fm)) v W'∧Ext W6 W') 103 #[.agg (ints .u8 (key)),.slice a_n nonce.length c_n,.int .i64 1,.slice a_t (sl.length-16) c_t] 61 rfl kj kj ((MixE key nonce (sl.take (sl.length-16)) (fm) _ _ _ _ th tq _ (Qab (Puts.row p5 (Qab r2_3 e4) (Qag r2_3 l11)) e6) (Qab (Puts.row p5 (Qab r1_3 e4) (Qag r1_3 l11)) e6) hkl (RdK.ext hn x6) (QbC (RdK.ext ht x6) (sl.length-16) (Nat.sub_le _ _)) h (by omega) em).mono (by rintro e w' ⟨v,rfl,e1,hv⟩; exact ⟨v,rfl,hv,e1⟩)) fun vv17 W7 hh17=>?_
  obtain ⟨hv17,e7⟩:=hh17
  obtain ⟨u61_,rfl,hu61_⟩:=hv17
  refine sg 4 kj <| sgN hK16 <| wp_ret ?_
  repeat (first | with_reducible refine goR1 ?_ | with_reducible refine goR2 ?_)
  exact (show bodyPost _ _ _ .ret _ _ from ret2 (u61_) (.nilIface) rfl (Qaq kj) (Qaq kj) ⟨_,rfl,(Ext.tr x6 e7),u61_,rfl,by rw [em]; exact OwnN.base x6.size hu61_⟩)
end Go.Proofs.YtoiendjhplbjjaaDoor.Ae
end
section
namespace Go.Proofs.YtoiendjhplbjjaaDoor.Ae
open Go Go.RowKit
open Rely Auto Own Sha
open Sha Cha
theorem Qki (n0 n:Nat) (w:World) (hn0:n0≤w.heap.size):Calls Tryd.prog 112 #[.int .i64 ((n:Nat):Int)] w (QbD w (OwnN .u8 5 n0 (by8 ((n:Nat):Int)))) :=
  (Qgn n w).mono fun e W' hg=>by
    obtain ⟨v',e1,e2,e3⟩:=hg
    exact ⟨v',e1,e2,e3.base hn0⟩
theorem QkH (n : Nat) (w:World):Calls Tryd.prog 86 #[.int .i64 ((n:Nat):Int)] w (QbD w (OwnN .u8 5 w.heap.size ([0,0,0,0]++by8 ((n:Nat):Int)))):=by
  refine enter 7 [(0,.int .i64 ((n:Nat):Int))] Tryd.func86 rfl rfl kj rfl <| sgB kj <| wp_seq_k fun K2 hK2=>QaL 3 [⟨none,[]⟩,⟨none,[(0,none)]⟩,⟨none,[(4,some 1)]⟩] kj kj fun F hF=>QgT (Qaj _) (ints .u8 ([0,0,0,0])) 5 4 (NewS.stable _ _ _ _) kj kj (fun W=>by kernel_rfl) <| Qay (Qaj _) (.int .i64 ((n:Nat):Int)) kj kj (fun W=>by kernel_rfl) <| QcM (Qaj _) (OwnN .u8 5 w.heap.size (by8 ((n:Nat):Int))) (OwnN.stable _ _ _ _) 112 #[.int .i64 ((n:Nat):Int)] kj kj (fun W=>by kernel_rfl) (fun W hR=>(Qki w.heap.size n _ (Rely.Ext.trans (Qak _) hR).size)) <| Qck (hF _ fun W1 e1=>?_)
  simp only [List.nil_append,List.cons_append,List.take_succ_cons,List.take_zero,List.drop_succ_cons,List.drop_zero,finE,up]
  intro vv3 hv3 vv4 hv4
  clear hF
  obtain ⟨g3,rfl,l3,r3_1⟩:=hv3
  have b3:=qT (Rely.Ext.refl w).size l3
  obtain ⟨a5_,c5_,rfl,-⟩:=id (OwnN.rd hv4)
  refine Qa9 (k:=.u8) (T:=5) (xs:=[0,0,0,0]) (ys:=by8 ((n:Nat):Int)) (V:=w) 1 (.tmp 3) (.tmp 5) 33 rfl kj kj (by decide) 6 rfl kj kj kj (QbW (xs:=[0,0,0,0]) rfl l3 r3_1 (by decide)) (OwnN.rd hv4) (by rw [QbB]; decide) (Rely.Ext.trans (Rely.Ext.refl w) e1) fun zn W2 f5 y2 l2=>?_
  refine sg 1 kj <| sgN hK2 <| wp_ret ?_
  repeat (first | with_reducible refine goR1 ?_ | with_reducible refine goR2 ?_)
  exact (show bodyPost _ _ _ .ret _ _ from ret1 (zn) rfl (Qaq kj) ⟨zn,rfl,(Ext.low (Ext.tr (Rely.Ext.refl w) e1) l2 (Rely.Ext.refl w).size),OwnN.base (qR _) f5⟩)
end Go.Proofs.YtoiendjhplbjjaaDoor.Ae
end
