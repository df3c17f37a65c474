/- Texts of this claim, joined (N2). -/
import Derived.Test.YtdoadngmgmdlbaaDoorZN1
import Derived.Test.YtdoadngmgmdlbaaDoorRows
import Derived.Laws.Externs
import Derived.Shelf.Spec.BitsCarry
import Derived.Shelf.Bits.Mul64
import Derived.Laws.Bits64b
import Derived.Laws.BitsAllLaws
import Derived.LoopN
import Derived.WalkKit
import Derived.Lib.LaidTab

set_option linter.unusedVariables false
set_option linter.unusedSimpArgs false
set_option maxHeartbeats 4000000
section
section
namespace Go.Proofs.YtdoadngmgmdlbaaDoor.Field
open Go Go.RowKit
open Rely
def isW (x : Int):Prop:=0≤x∧x<18446744073709551616
theorem Qej (x y c:Int) (hx:isW x) (hy:isW y) (hc:0≤c∧c≤1) :
    ∃ s d:Int,isW s∧(0≤d∧d≤1)∧s+18446744073709551616*d=x+y+c ∧
      ∀ W,(callFunc 88 #[.int .u64 x,.int .u64 y,.int .u64 c]).run Tryd.prog W=.ok (.value (.tuple #[.int .u64 s,.int .u64 d])) W:=by
  unfold isW at hx hy
  refine ⟨(x+y+c)%18446744073709551616,(x+y+c)/18446744073709551616,⟨by omega,by omega⟩,by omega,by omega,fun W=>?_⟩
  rw [run_callFunc_extern Tryd.func88 kj kj kj (e:=add64Entry) kj,run_add64 x y c hx.1 hy.1 hc.1 hc.2]
  rfl
theorem Qer (x y c:Int) (hx:isW x) (hy:isW y) (hc:0≤c∧c≤1) :
    ∃ s d:Int,isW s∧(0≤d∧d≤1)∧s-18446744073709551616*d=x-y-c ∧
      ∀ W,(callFunc 89 #[.int .u64 x,.int .u64 y,.int .u64 c]).run Tryd.prog W=.ok (.value (.tuple #[.int .u64 s,.int .u64 d])) W:=by
  unfold isW at hx hy
  obtain ⟨X,rfl⟩:=Int.eq_ofNat_of_zero_le hx.1
  obtain ⟨Y,rfl⟩:=Int.eq_ofNat_of_zero_le hy.1
  obtain ⟨C,rfl⟩:=Int.eq_ofNat_of_zero_le hc.1
  refine ⟨(((X+18446744073709551616-Y-C)%18446744073709551616:Nat):Int),((if X<Y+C then 1 else 0:Nat):Int),⟨by omega,by omega⟩,?_,?_,fun W=>?_⟩
  · split <;> simp
  · split <;> omega
  · rw [run_callFunc_extern Tryd.func89 kj kj kj (e:=sub64Entry) kj,run_sub64 X Y C (by omega)]
    rfl
theorem maskN (a : Int) (h:isW a):bits .and .u64 a 4294967295=a%4294967296:=by
  obtain ⟨A,rfl⟩:=Int.eq_ofNat_of_zero_le h.1
  have h:=bits_and_u64_nat A 4294967295 (by have:=h.2; omega) (by omega)
  have e:A&&&4294967295=A%4294967296:=Nat.and_two_pow_sub_one_eq_mod A 32
  rw [e] at h
  exact h
theorem wrap64 (a : Int) (h:isW a):IntKind.u64.wrap a=a:=by rw [IntKind.wrap_u64]; have:=h.1; have:=h.2; omega
theorem Qrh (x y:Int) (hx:isW x) (hy:isW y) :
    ∃ hi lo:Int,isW hi∧isW lo∧lo+18446744073709551616*hi=x*y∧∀ w,Calls Tryd.prog 100 #[.int .u64 x,.int .u64 y] w (fun e w'=>e=.returned (.tuple #[.int .u64 hi,.int .u64 lo])∧w'=w):=by
  obtain ⟨X,rfl⟩:=Int.eq_ofNat_of_zero_le hx.1
  obtain ⟨Y,rfl⟩:=Int.eq_ofNat_of_zero_le hy.1
  have hX:X<18446744073709551616:=by have:=hx.2; omega
  have hY:Y<18446744073709551616:=by have:=hy.2; omega
  have hXY:X*Y<18446744073709551616*18446744073709551616:=Nat.mul_lt_mul'' hX hY
  refine ⟨((X*Y/18446744073709551616:Nat):Int),((X*Y%18446744073709551616:Nat):Int),⟨by omega,by omega⟩,⟨by omega,by omega⟩,?_,fun w=>?_⟩
  · rw [←Int.natCast_mul]; omega
  obtain ⟨bd,bt,bw,hhi⟩:=Lib.mul64_hi X Y hX hY
  have ba:=Lib.half_mul_le (a:=X/4294967296) (b:=Y/4294967296) (by omega) (by omega)
  have bb:=Lib.half_mul_le (a:=X/4294967296) (b:=Y%4294967296) (by omega) (by omega)
  have bc:=Lib.half_mul_le (a:=X%4294967296) (b:=Y/4294967296) (by omega) (by omega)
  have ba':X/4294967296*(Y/4294967296)<18446744073709551616:=by omega
  have bb':X/4294967296*(Y%4294967296)<18446744073709551616:=by omega
  have bc':X%4294967296*(Y/4294967296)<18446744073709551616:=by omega
  have bh1:X/4294967296*(Y/4294967296)+(X/4294967296*(Y%4294967296)+X%4294967296*(Y%4294967296)/4294967296)/4294967296<18446744073709551616:=by omega
  have bh:X/4294967296*(Y/4294967296)+(X/4294967296*(Y%4294967296)+X%4294967296*(Y%4294967296)/4294967296)/4294967296+((X/4294967296*(Y%4294967296)+X%4294967296*(Y%4294967296)/4294967296)%4294967296+X%4294967296*(Y/4294967296))/4294967296<18446744073709551616:=by omega
  go_enter Tryd.func100,Tryd.ntmps100
  go_wp2
  simp only [Mul64.maskN X hX,Mul64.maskN Y hY,Mul64.divN,Mul64.mulN,Mul64.addN,Mul64.wrapN _ bd,Mul64.wrapN _ bb',Mul64.wrapN _ bt,Mul64.maskN _ bt,Mul64.wrapN _ bc',Mul64.wrapN _ bw,Mul64.wrapN _ ba',Mul64.wrapN _ bh1,Mul64.wrapN _ bh,Mul64.wrapM (X*Y)]
  rw [hhi]
  go_ret2
  exact ⟨rfl,rfl⟩
theorem Qbs : isW 0:=⟨by decide,by decide⟩
theorem Qcx (x y a b:Int) (hx:isW x) (hy:isW y) (ha:isW a) (hb:isW b) :
    ∃ lo hi:Int,isW lo∧isW hi∧lo+18446744073709551616*hi=x*y+a+b∧∀ w,Calls Tryd.prog 91 #[.int .u64 x,.int .u64 y,.int .u64 a,.int .u64 b] w (fun e w'=>e=.returned (.tuple #[.int .u64 lo,.int .u64 hi])∧w'=w):=by
  obtain ⟨h0,l0,wh0,wl0,e0,c0⟩:=Qrh x y hx hy
  obtain ⟨l1,k1,wl1,wk1,e1,c1⟩:=Qej l0 a 0 wl0 ha (by decide)
  obtain ⟨l2,k2,wl2,wk2,e2,c2⟩:=Qej l1 b 0 wl1 hb (by decide)
  have hm:x*y≤18446744073709551615*18446744073709551615:=Int.mul_le_mul (by have:=hx.2; omega) (by have:=hy.2; omega) hy.1 (by decide)
  have hn:0≤x*y:=Int.mul_nonneg hx.1 hy.1
  generalize x*y=xy at *
  unfold isW at *
  have w1:=wrap64 (h0+k1) (by unfold isW; omega)
  have w2:=wrap64 (h0+k1+k2) (by unfold isW; omega)
  refine ⟨l2,h0+k1+k2,wl2,by omega,by omega,fun w=>?_⟩
  have C0:=Lib.hid c0
  clear c0 hm hn hx hy ha hb wh0 wl0 wl1 wl2 wk1 wk2 e0 e1 e2
  go_enter Tryd.func91,Tryd.ntmps91
  go_wp2_with (go_at_call 100; (with_reducible refine (C0.out _).mono ?_); rintro e w' ⟨rfl,rfl⟩)
  go_ret2
  exact ⟨rfl,rfl⟩
end Go.Proofs.YtdoadngmgmdlbaaDoor.Field
end
section
namespace Go.Proofs.YtdoadngmgmdlbaaDoor.Field
open Go Go.RowKit
open Rely
def val (a b c d:Int):Int:=a+18446744073709551616*b+340282366920938463463374607431768211456*c+6277101735386680763835789423207666416102355444464034512896*d
def p : Int:=57896044618658097711785492504343953926634992332820282019728792003956564819949
def words (a b c d:Int):Value:=.agg #[.int .u64 a,.int .u64 b,.int .u64 c,.int .u64 d]
def num (n : Int):Value:=words (n%18446744073709551616) (n/18446744073709551616%18446744073709551616) (n/340282366920938463463374607431768211456%18446744073709551616) (n/6277101735386680763835789423207666416102355444464034512896%18446744073709551616)
theorem Qed (a b c d:Int) (ha:isW a) (hb:isW b) (hc:isW c) (hd:isW d):words a b c d=num (val a b c d):=by
  unfold isW at *
  unfold num val
  have e1:(a+18446744073709551616*b+340282366920938463463374607431768211456*c+6277101735386680763835789423207666416102355444464034512896*d)%18446744073709551616=a:=by omega
  have e2:(a+18446744073709551616*b+340282366920938463463374607431768211456*c+6277101735386680763835789423207666416102355444464034512896*d)/18446744073709551616%18446744073709551616=b:=by omega
  have e3:(a+18446744073709551616*b+340282366920938463463374607431768211456*c+6277101735386680763835789423207666416102355444464034512896*d)/340282366920938463463374607431768211456%18446744073709551616=c:=by omega
  have e4:(a+18446744073709551616*b+340282366920938463463374607431768211456*c+6277101735386680763835789423207666416102355444464034512896*d)/6277101735386680763835789423207666416102355444464034512896%18446744073709551616=d:=by omega
  rw [e1,e2,e3,e4]
theorem Qf1 {fn : Func} {tmps:Array Value} {W:World} {g:Nat} {t:Tmp} {a b c d:Int} (h:fn.results=#[.cell t 49])
    (hp:tmps.getD t undef=.pointer (some ⟨g,0,none⟩)) (hg:W.heap[g]? = some (.cells #[.int .u64 a,.int .u64 b,.int .u64 c,.int .u64 d] 49)) :
    (results fn tmps).run Tryd.prog W=.ok (words a b c d) W :=
  results_cell_row h tmps W g 49 _ (0,0) _ hp hg Tryd.underlying49 rfl kj
theorem Qih (a : Int) (h:isW a):bits .andNot .u64 a 9223372036854775808=a%9223372036854775808:=by
  obtain ⟨A,rfl⟩:=Int.eq_ofNat_of_zero_le h.1
  have h2:A<18446744073709551616:=by have:=h.2; omega
  have e:=u64_andNot_nat A 9223372036854775808 h2 (by decide)
  have m:A&&&9223372036854775807=A%9223372036854775808:=Nat.and_two_pow_sub_one_eq_mod A 63
  simp only [Nat.reduceSub,m] at e
  exact e
theorem reduced (a b c d:Int) (ha:isW a) (hb:isW b) (hc:isW c) (hd:isW d) (h:val a b c d<2*p) (w:World) :
    Calls Tryd.prog 81 #[.int .u64 a,.int .u64 b,.int .u64 c,.int .u64 d] w (Ret w (num (val a b c d%p))):=by
  obtain ⟨v0,c0,wv0,wc0,e0,r0⟩:=Qej a 19 0 ha (by unfold isW; decide) (by decide)
  obtain ⟨v1,c1,wv1,wc1,e1,r1⟩:=Qej b 0 c0 hb (by unfold isW; decide) wc0
  obtain ⟨v2,c2,wv2,wc2,e2,r2⟩:=Qej c 0 c1 hc (by unfold isW; decide) wc1
  have wv3:isW (d+c2):=by unfold isW val p at *; omega
  have o3:=Qih _ wv3
  have u3:=wrap64 _ wv3
  by_cases hlt:d+c2<9223372036854775808
  · have hz:(d+c2)/9223372036854775808=0:=by have:=wv3.1; omega
    have hv:num (val a b c d%p)=words a b c d:=by
      rw [Int.emod_eq_of_lt (by unfold isW val p at *; omega) (by unfold isW val p at *; omega),Qed a b c d ha hb hc hd]
    rw [hv]
    clear hv o3 e0 e1 e2 h
    go_enter Tryd.func81,Tryd.ntmps81
    go_wp2_with fail
    exact bodyPost_ret (Qf1 (t:=8) rfl rfl (heap_alloc_new w _)) rfl ⟨rfl,QaJ _ _⟩
  · have hz:(d+c2)/9223372036854775808=1:=by have:=wv3.2; omega
    have hv:num (val a b c d%p)=words v0 v1 v2 ((d+c2)%9223372036854775808):=by
      rw [Qed v0 v1 v2 ((d+c2)%9223372036854775808) wv0 wv1 wv2 (by unfold isW; omega)]
      congr 1
      rw [←Int.sub_emod_right,Int.emod_eq_of_lt (by unfold isW val p at *; omega) (by unfold isW val p at *; omega)]
      unfold isW val p at *
      omega
    rw [hv]
    clear hv e0 e1 e2 h
    go_enter Tryd.func81,Tryd.ntmps81
    go_wp2_with fail
    exact bodyPost_ret (Qf1 (t:=8) rfl rfl (heap_alloc_new w _)) rfl ⟨rfl,QaJ _ _⟩
end Go.Proofs.YtdoadngmgmdlbaaDoor.Field
end
section
namespace Go.Proofs.YtdoadngmgmdlbaaDoor.Field
open Go Go.RowKit
open Rely
def isN (a : Int):Prop:=0≤a∧a<p
theorem Qa0 (a : Int):isN (a%p):=⟨Int.emod_nonneg _ (by unfold p; decide),Int.emod_lt_of_pos _ (by unfold p; decide)⟩
theorem Qcq (a : Int) (h:isN a):∃ x0 x1 x2 x3:Int,isW x0∧isW x1∧isW x2∧isW x3∧val x0 x1 x2 x3=a∧num a=words x0 x1 x2 x3:=by
  refine ⟨a%18446744073709551616,a/18446744073709551616%18446744073709551616,a/340282366920938463463374607431768211456%18446744073709551616,a/6277101735386680763835789423207666416102355444464034512896%18446744073709551616,?_,?_,?_,?_,?_,rfl⟩
  all_goals unfold isN p at h
  all_goals first | (unfold isW; omega) | (unfold val; omega)
def numA (n : Int):Array Value:=#[.int .u64 (n%18446744073709551616),.int .u64 (n/18446744073709551616%18446744073709551616),.int .u64 (n/340282366920938463463374607431768211456%18446744073709551616),.int .u64 (n/6277101735386680763835789423207666416102355444464034512896%18446744073709551616)]
theorem QoJ (n : Int):num n=.agg (numA n):=rfl
theorem QaS : (Tryd.prog.info? 49).map (·.size)=some 4:=kj
theorem Qdt {fn : Func} {tmps:Array Value} {W:World} {g:Nat} {t:Tmp} {n:Int} (h:fn.results=#[.cell t 49])
    (hp:tmps.getD t undef=.pointer (some ⟨g,0,none⟩)) (hg:W.heap[g]? = some (.cells (numA n) 49)) :
    (results fn tmps).run Tryd.prog W=.ok (num n) W :=
  results_cell_row h tmps W g 49 _ (0,0) _ hp hg Tryd.underlying49 rfl QaS
theorem Qbw (w : World) (a b c:Obj):(((w.alloc a).alloc b).alloc c).heap[w.heap.size+2]? = some c:=by
  have:=heap_alloc_new ((w.alloc a).alloc b) c
  simpa using this
theorem below_setRow {B : Nat} {a w:World} (h:Below B a w) {g:Nat} (hp:B≤g) (cs:Array Value):Below B a (w.setRow g cs) :=
  ⟨h.os,h.tape,h.output,by simpa using h.size,fun k hk=>(setRow_other w g k cs (by omega)).trans (h.block k hk)⟩
theorem ext3 (w : World) (a b c:Obj):Ext w (((w.alloc a).alloc b).alloc c):=Ext.trans (Ext.trans (QaJ _ _) (QaJ _ _)) (QaJ _ _)
theorem Qb3 (n : Int):(numA n).all (·.oneCell')=true:=by simp [numA,Value.oneCell']
theorem add (a b:Int) (ha:isN a) (hb:isN b) (w:World) :
    Calls Tryd.prog 68 #[num a,num b] w (Ret w (num ((a+b)%p))):=by
  obtain ⟨x0,x1,x2,x3,wx0,wx1,wx2,wx3,ex,eX⟩:=Qcq a ha
  obtain ⟨y0,y1,y2,y3,wy0,wy1,wy2,wy3,ey,eY⟩:=Qcq b hb
  obtain ⟨v0,c0,wv0,wc0,e0,r0⟩:=Qej x0 y0 0 wx0 wy0 (by decide)
  obtain ⟨v1,c1,wv1,wc1,e1,r1⟩:=Qej x1 y1 c0 wx1 wy1 wc0
  obtain ⟨v2,c2,wv2,wc2,e2,r2⟩:=Qej x2 y2 c1 wx2 wy2 wc1
  have wv3:isW (x3+y3+c2):=by unfold isN isW val p at *; omega
  have u3:=wrap64 _ wv3
  have u3':=wrap64 (x3+y3) (by unfold isW at *; omega)
  have hs:val v0 v1 v2 (x3+y3+c2)=a+b:=by unfold val at *; omega
  have C:∀ w,Calls Tryd.prog 81 #[.int .u64 v0,.int .u64 v1,.int .u64 v2,.int .u64 (x3+y3+c2)] w (Ret w (num ((a+b)%p))):=fun w=>by
    have:=reduced v0 v1 v2 (x3+y3+c2) wv0 wv1 wv2 wv3 (by rw [hs]; unfold isN at *; omega) w
    rw [hs] at this
    exact this
  rw [eX,eY]
  generalize (a+b)%p=r at *
  have HC:=Lib.hid C
  clear C hs e0 e1 e2 ex ey eX eY ha hb
  unfold words
  go_enter Tryd.func68,Tryd.ntmps68
  go_wp2_with first
    | (go_at_call 81
       (with_reducible refine (HC.out _).mono ?_)
       rintro e w' ⟨rfl,hw⟩)
    | (with_reducible show wpList _ _ _ ((⟨_,.store 49 _ _,_,_,_,_⟩:Oper)::_) _ _
       refine wpList_store_row rfl 49 _ _ rfl (w.heap.size+2) (numA r) rfl rfl 49 _ ((hw.block _ (by simp)).trans (Qbw _ _ _ _)) QaS rfl (Qb3 _) ?_)
  exact bodyPost_ret (Qdt (t:=4) rfl rfl (setRow_heap _ _ _ _ _ _ ((hw.block _ (by simp)).trans (Qbw _ _ _ _)))) rfl ⟨rfl,below_setRow (Ext.trans (ext3 _ _ _ _) hw) (by omega) _⟩
theorem QnQ (r : Nat) (h:r<9223372036854775808):(9223372036854775808+r)^^^9223372036854775808=r:=by
  have e:9223372036854775808+r=9223372036854775808|||r:=by
    have:=Nat.two_pow_add_eq_or_of_lt (i:=63) (b:=r) h 1
    simpa using this
  have h2:(9223372036854775808:Nat)=2^63:=by decide
  rw [e]
  apply Nat.eq_of_testBit_eq
  intro i
  rw [Nat.testBit_xor,Nat.testBit_or,h2,Nat.testBit_two_pow]
  by_cases hi:63=i
  · subst hi
    rw [Nat.testBit_lt_two_pow (h2▸h)]
    simp
  · simp [hi]
theorem QlL (a : Int) (h:9223372036854775808≤a∧a<18446744073709551616):bits .xor .u64 a 9223372036854775808=a-9223372036854775808:=by
  rw [u64_xor a _ (by omega) (by omega) (by omega) (by omega)]
  obtain ⟨A,rfl⟩:=Int.eq_ofNat_of_zero_le (show 0≤a by omega)
  obtain ⟨r,rfl⟩:∃ r,A=9223372036854775808+r:=⟨A-9223372036854775808,by omega⟩
  have:=QnQ r (by omega)
  simp only [Int.toNat_natCast]
  have e:(9223372036854775808:Int).toNat=9223372036854775808:=rfl
  rw [e,this]
  omega
theorem QlK (a : Int) (h:isW a):bits .xor .u64 a 0=a:=by
  rw [u64_xor a _ h.1 h.2 (by omega) (by omega)]
  simp
  have:=h.1
  omega
theorem Qno (v0 v1 v2 v3 u0 u1 u2 d0 d1 d2:Int) (f0:u0-18446744073709551616*d0=v0-19-0) (f1:u1-18446744073709551616*d1=v1-0-d0) (f2:u2-18446744073709551616*d2=v2-0-d1) :
    val u0 u1 u2 (v3-d2)=val v0 v1 v2 v3-19:=by unfold val; omega
theorem Qfy (a b c d:Int) (ha:isW a) (hb:isW b) (hc:isW c) (hd:isW d):0≤val a b c d∧val a b c d<115792089237316195423570985008687907853269984665640564039457584007913129639936:=by unfold isW at *; unfold val; omega
theorem Qj5 (u0 u1 u2 t V:Int) (h0:isW u0) (h1:isW u1) (h2:isW u2) (e:val u0 u1 u2 t=V)
    (l:57896044618658097711785492504343953926634992332820282019728792003956564819968≤V) (h:V<115792089237316195423570985008687907853269984665640564039457584007913129639936) :
    9223372036854775808≤t∧t<18446744073709551616:=by unfold isW at *; unfold val at e; omega
theorem QnX (a b c d:Int):val a b c (d-9223372036854775808)=val a b c d-57896044618658097711785492504343953926634992332820282019728792003956564819968:=by unfold val; omega
theorem sub (a b:Int) (ha:isN a) (hb:isN b) (w:World) :
    Calls Tryd.prog 69 #[num a,num b] w (Ret w (num ((a-b)%p))):=by
  obtain ⟨x0,x1,x2,x3,wx0,wx1,wx2,wx3,ex,eX⟩:=Qcq a ha
  obtain ⟨y0,y1,y2,y3,wy0,wy1,wy2,wy3,ey,eY⟩:=Qcq b hb
  obtain ⟨v0,c0,wv0,wc0,e0,r0⟩:=Qer x0 y0 0 wx0 wy0 (by decide)
  obtain ⟨v1,c1,wv1,wc1,e1,r1⟩:=Qer x1 y1 c0 wx1 wy1 wc0
  obtain ⟨v2,c2,wv2,wc2,e2,r2⟩:=Qer x2 y2 c1 wx2 wy2 wc1
  obtain ⟨v3,c3,wv3,wc3,e3,r3⟩:=Qer x3 y3 c2 wx3 wy3 wc2
  have hs:val v0 v1 v2 v3=a-b+115792089237316195423570985008687907853269984665640564039457584007913129639936*c3:=by unfold val at *; omega
  rw [eX,eY]
  rcases (by omega:c3=0∨c3=1) with rfl | rfl
  · obtain ⟨u0,d0,wu0,wd0,f0,s0⟩:=Qer v0 0 0 wv0 Qbs (by decide)
    obtain ⟨u1,d1,wu1,wd1,f1,s1⟩:=Qer v1 0 d0 wv1 Qbs wd0
    obtain ⟨u2,d2,wu2,wd2,f2,s2⟩:=Qer v2 0 d1 wv2 Qbs wd1
    have k0:d0=0:=by unfold isW at *; omega
    subst k0
    have k1:d1=0:=by unfold isW at *; omega
    subst k1
    have k2:d2=0:=by unfold isW at *; omega
    subst k2
    have hr:num ((a-b)%p)=words u0 u1 u2 v3:=by
      rw [Qed _ _ _ _ wu0 wu1 wu2 wv3,Int.emod_eq_of_lt (by unfold isN isW val at *; omega) (by unfold isN isW val at *; omega)]
      congr 1
      unfold val at *
      omega
    have w3:=wrap64 v3 wv3
    have z3:=QlK v3 wv3
    rw [hr]
    clear hr hs e0 e1 e2 e3 f0 f1 f2 ex ey eX eY ha hb
    unfold words
    go_enter Tryd.func69,Tryd.ntmps69
    go_wp2_with fail
    exact bodyPost_ret (Qf1 (t:=4) rfl rfl (Qbw _ _ _ _)) rfl ⟨rfl,ext3 _ _ _ _⟩
  · obtain ⟨u0,d0,wu0,wd0,f0,s0⟩:=Qer v0 19 0 wv0 (by unfold isW; decide) (by decide)
    obtain ⟨u1,d1,wu1,wd1,f1,s1⟩:=Qer v1 0 d0 wv1 Qbs wd0
    obtain ⟨u2,d2,wu2,wd2,f2,s2⟩:=Qer v2 0 d1 wv2 Qbs wd1
    have hu:=Qno v0 v1 v2 v3 u0 u1 u2 d0 d1 d2 f0 f1 f2
    have hlo:=Qfy v0 v1 v2 v3 wv0 wv1 wv2 wv3
    have hV:val u0 u1 u2 (v3-d2)=a-b+115792089237316195423570985008687907853269984665640564039457584007913129639917:=by rw [hu,hs]; omega
    have hb3:=Qj5 u0 u1 u2 (v3-d2) _ wu0 wu1 wu2 hV (by have:=ha.1; have:=hb.2; unfold p at this; omega) (by rw [hs] at hlo; omega)
    have hr:num ((a-b)%p)=words u0 u1 u2 (v3-d2-9223372036854775808):=by
      rw [Qed _ _ _ _ wu0 wu1 wu2 (by unfold isW; omega),←Int.add_emod_right,Int.emod_eq_of_lt (by have:=ha.1; have:=hb.2; omega) (by rw [hs] at hlo; omega)]
      congr 1
      have e:=QnX u0 u1 u2 (v3-d2)
      rw [hV] at e
      rw [e]
      unfold p
      omega
    have w3:=wrap64 (v3-d2) (by unfold isW; omega)
    have z3:=QlL (v3-d2) hb3
    rw [hr]
    clear hr hs e0 e1 e2 e3 f0 f1 f2 ex ey eX eY ha hb hb3
    unfold words
    go_enter Tryd.func69,Tryd.ntmps69
    go_wp2_with fail
    exact bodyPost_ret (Qf1 (t:=4) rfl rfl (Qbw _ _ _ _)) rfl ⟨rfl,ext3 _ _ _ _⟩
end Go.Proofs.YtdoadngmgmdlbaaDoor.Field
end
section
namespace Go.Proofs.YtdoadngmgmdlbaaDoor.Field
open Go Go.RowKit
open Rely
theorem QoP (x0 x1 x2 x3 y0 y1 y2 y3:Int):val x0 x1 x2 x3*val y0 y1 y2 y3=(x0*y0)+18446744073709551616*(x0*y1)+340282366920938463463374607431768211456*(x0*y2)+6277101735386680763835789423207666416102355444464034512896*(x0*y3)+18446744073709551616*(x1*y0)+340282366920938463463374607431768211456*(x1*y1)+6277101735386680763835789423207666416102355444464034512896*(x1*y2)+115792089237316195423570985008687907853269984665640564039457584007913129639936*(x1*y3)+340282366920938463463374607431768211456*(x2*y0)+6277101735386680763835789423207666416102355444464034512896*(x2*y1)+115792089237316195423570985008687907853269984665640564039457584007913129639936*(x2*y2)+2135987035920910082395021706169552114602704522356652769947041607822219725780640550022962086936576*(x2*y3)+6277101735386680763835789423207666416102355444464034512896*(x3*y0)+115792089237316195423570985008687907853269984665640564039457584007913129639936*(x3*y1)+2135987035920910082395021706169552114602704522356652769947041607822219725780640550022962086936576*(x3*y2)+39402006196394479212279040100143613805079739270465446667948293404245721771497210611414266254884915640806627990306816*(x3*y3):=by
  unfold val
  grind
theorem QmC (p00 p01 p02 p03 p10 p11 p12 p13 p20 p21 p22 p23 p30 p31 p32 p33 l00 h00 l01 h01 l02 h02 l03 h03 l10 h10 l11 h11 l12 h12 l13 h13 l20 h20 l21 h21 l22 h22 l23 h23 l30 h30 l31 h31 l32 h32 l33 h33:Int) (q00:l00+18446744073709551616*h00=p00+0+0) (q01:l01+18446744073709551616*h01=p01+0+h00) (q02:l02+18446744073709551616*h02=p02+0+h01) (q03:l03+18446744073709551616*h03=p03+0+h02) (q10:l10+18446744073709551616*h10=p10+l01+0) (q11:l11+18446744073709551616*h11=p11+l02+h10) (q12:l12+18446744073709551616*h12=p12+l03+h11) (q13:l13+18446744073709551616*h13=p13+h03+h12) (q20:l20+18446744073709551616*h20=p20+l11+0) (q21:l21+18446744073709551616*h21=p21+l12+h20) (q22:l22+18446744073709551616*h22=p22+l13+h21) (q23:l23+18446744073709551616*h23=p23+h13+h22) (q30:l30+18446744073709551616*h30=p30+l21+0) (q31:l31+18446744073709551616*h31=p31+l22+h30) (q32:l32+18446744073709551616*h32=p32+l23+h31) (q33:l33+18446744073709551616*h33=p33+h23+h32) :
    l00+18446744073709551616*l10+340282366920938463463374607431768211456*l20+6277101735386680763835789423207666416102355444464034512896*l30+115792089237316195423570985008687907853269984665640564039457584007913129639936*l31+2135987035920910082395021706169552114602704522356652769947041607822219725780640550022962086936576*l32+39402006196394479212279040100143613805079739270465446667948293404245721771497210611414266254884915640806627990306816*l33+726838724295606890549323807888004534353641360687318060281490199180639288113397923326191050713763565560762521606266177933534601628614656*h33=p00+18446744073709551616*p01+340282366920938463463374607431768211456*p02+6277101735386680763835789423207666416102355444464034512896*p03+18446744073709551616*p10+340282366920938463463374607431768211456*p11+6277101735386680763835789423207666416102355444464034512896*p12+115792089237316195423570985008687907853269984665640564039457584007913129639936*p13+340282366920938463463374607431768211456*p20+6277101735386680763835789423207666416102355444464034512896*p21+115792089237316195423570985008687907853269984665640564039457584007913129639936*p22+2135987035920910082395021706169552114602704522356652769947041607822219725780640550022962086936576*p23+6277101735386680763835789423207666416102355444464034512896*p30+115792089237316195423570985008687907853269984665640564039457584007913129639936*p31+2135987035920910082395021706169552114602704522356652769947041607822219725780640550022962086936576*p32+39402006196394479212279040100143613805079739270465446667948293404245721771497210611414266254884915640806627990306816*p33:=by omega
theorem QmD (w0 w1 w2 w3 w4 w5 w6 w7 r0 r1 r2 r3 k0 k1 k2 k3 v0 v1 v2 c0 c1 c2 Z:Int) (hr3:isW r3) (hz:w0+18446744073709551616*w1+340282366920938463463374607431768211456*w2+6277101735386680763835789423207666416102355444464034512896*w3+115792089237316195423570985008687907853269984665640564039457584007913129639936*w4+2135987035920910082395021706169552114602704522356652769947041607822219725780640550022962086936576*w5+39402006196394479212279040100143613805079739270465446667948293404245721771497210611414266254884915640806627990306816*w6+726838724295606890549323807888004534353641360687318060281490199180639288113397923326191050713763565560762521606266177933534601628614656*w7=Z)
    (g0:r0+18446744073709551616*k0=w4*38+w0+0) (g1:r1+18446744073709551616*k1=w5*38+w1+k0) (g2:r2+18446744073709551616*k2=w6*38+w2+k1) (g3:r3+18446744073709551616*k3=w7*38+w3+k2)
    (f0:v0+18446744073709551616*c0=r0+19*(2*k3+r3/9223372036854775808)+0) (f1:v1+18446744073709551616*c1=r1+0+c0) (f2:v2+18446744073709551616*c2=r2+0+c1) :
    val v0 v1 v2 (r3%9223372036854775808+c2)=Z-p*(2*(w4+18446744073709551616*w5+340282366920938463463374607431768211456*w6+6277101735386680763835789423207666416102355444464034512896*w7)+(2*k3+r3/9223372036854775808)):=by
  have e:=Int.emod_add_mul_ediv r3 9223372036854775808
  unfold val p
  omega
theorem QkU (r0 r1 r2 r3 k3 v0 v1 v2 c0 c1 c2:Int) (h0:isW r0) (h1:isW r1) (h2:isW r2) (h3:isW r3) (hk:0≤k3∧k3≤39)
    (f0:v0+18446744073709551616*c0=r0+19*(2*k3+r3/9223372036854775808)+0) (f1:v1+18446744073709551616*c1=r1+0+c0) (f2:v2+18446744073709551616*c2=r2+0+c1) :
    val v0 v1 v2 (r3%9223372036854775808+c2)<2*p:=by
  unfold isW at *
  unfold val p
  omega
theorem QmN (w7 w3 k2 r3 k3:Int) (h1:isW w7) (h2:isW w3) (h3:isW k2) (h4:isW k3) (h5:isW r3) (g3:r3+18446744073709551616*k3=w7*38+w3+k2):0≤k3∧k3≤39:=by unfold isW at *; omega
theorem Qob (r : Int) (h:isW r):0≤r/9223372036854775808∧r/9223372036854775808≤1:=by unfold isW at *; omega
theorem QoS (r c:Int) (h:isW r) (hc:0≤c∧c≤1):isW (r%9223372036854775808+c):=by unfold isW at *; omega
theorem Qqn (k t:Int) (hk:0≤k∧k≤39) (ht:0≤t∧t≤1):bits .or .u64 (k*2) t=2*k+t:=by
  have h:∀ a:Fin 40,∀ b:Fin 2,bits .or .u64 ((a.val:Int)*2) (b.val:Int)=2*(a.val:Int)+(b.val:Int):=by decide +kernel
  have:=h ⟨k.toNat,by omega⟩ ⟨t.toNat,by omega⟩
  simpa [Int.toNat_of_nonneg hk.1,Int.toNat_of_nonneg ht.1] using this
set_option maxRecDepth 100000 in
theorem mul (a b:Int) (ha:isN a) (hb:isN b) (w:World) :
    Calls Tryd.prog 66 #[num a,num b] w (Ret w (num ((a*b)%p))):=by
  obtain ⟨x0,x1,x2,x3,wx0,wx1,wx2,wx3,ex,eX⟩:=Qcq a ha
  obtain ⟨y0,y1,y2,y3,wy0,wy1,wy2,wy3,ey,eY⟩:=Qcq b hb
  obtain ⟨l00,h00,wl00,wh00,q00,C00⟩:=Qcx x0 y0 0 0 wx0 wy0 Qbs Qbs
  obtain ⟨l01,h01,wl01,wh01,q01,C01⟩:=Qcx x0 y1 0 h00 wx0 wy1 Qbs wh00
  obtain ⟨l02,h02,wl02,wh02,q02,C02⟩:=Qcx x0 y2 0 h01 wx0 wy2 Qbs wh01
  obtain ⟨l03,h03,wl03,wh03,q03,C03⟩:=Qcx x0 y3 0 h02 wx0 wy3 Qbs wh02
  obtain ⟨l10,h10,wl10,wh10,q10,C10⟩:=Qcx x1 y0 l01 0 wx1 wy0 wl01 Qbs
  obtain ⟨l11,h11,wl11,wh11,q11,C11⟩:=Qcx x1 y1 l02 h10 wx1 wy1 wl02 wh10
  obtain ⟨l12,h12,wl12,wh12,q12,C12⟩:=Qcx x1 y2 l03 h11 wx1 wy2 wl03 wh11
  obtain ⟨l13,h13,wl13,wh13,q13,C13⟩:=Qcx x1 y3 h03 h12 wx1 wy3 wh03 wh12
  obtain ⟨l20,h20,wl20,wh20,q20,C20⟩:=Qcx x2 y0 l11 0 wx2 wy0 wl11 Qbs
  obtain ⟨l21,h21,wl21,wh21,q21,C21⟩:=Qcx x2 y1 l12 h20 wx2 wy1 wl12 wh20
  obtain ⟨l22,h22,wl22,wh22,q22,C22⟩:=Qcx x2 y2 l13 h21 wx2 wy2 wl13 wh21
  obtain ⟨l23,h23,wl23,wh23,q23,C23⟩:=Qcx x2 y3 h13 h22 wx2 wy3 wh13 wh22
  obtain ⟨l30,h30,wl30,wh30,q30,C30⟩:=Qcx x3 y0 l21 0 wx3 wy0 wl21 Qbs
  obtain ⟨l31,h31,wl31,wh31,q31,C31⟩:=Qcx x3 y1 l22 h30 wx3 wy1 wl22 wh30
  obtain ⟨l32,h32,wl32,wh32,q32,C32⟩:=Qcx x3 y2 l23 h31 wx3 wy2 wl23 wh31
  obtain ⟨l33,h33,wl33,wh33,q33,C33⟩:=Qcx x3 y3 h23 h32 wx3 wy3 wh23 wh32
  obtain ⟨r0,k0,wr0,wk0,g0,D0⟩:=Qcx l31 38 l00 0 wl31 (by unfold isW; decide) wl00 Qbs
  obtain ⟨r1,k1,wr1,wk1,g1,D1⟩:=Qcx l32 38 l10 k0 wl32 (by unfold isW; decide) wl10 wk0
  obtain ⟨r2,k2,wr2,wk2,g2,D2⟩:=Qcx l33 38 l20 k1 wl33 (by unfold isW; decide) wl20 wk1
  obtain ⟨r3,k3,wr3,wk3,g3,D3⟩:=Qcx h33 38 l30 k2 wh33 (by unfold isW; decide) wl30 wk2
  have hk3:=QmN h33 l30 k2 r3 k3 wh33 wl30 wk2 wk3 wr3 g3
  have ht:=Qob r3 wr3
  have ob:=Qqn k3 (r3/9223372036854775808) hk3 ht
  have u1:=wrap64 (k3*2) (by unfold isW; omega)
  have u2:=wrap64 (19*(2*k3+r3/9223372036854775808)) (by unfold isW; omega)
  obtain ⟨v0,c0,wv0,wc0,f0,s0⟩:=Qej r0 (19*(2*k3+r3/9223372036854775808)) 0 wr0 (by unfold isW; omega) (by decide)
  obtain ⟨v1,c1,wv1,wc1,f1,s1⟩:=Qej r1 0 c0 wr1 Qbs wc0
  obtain ⟨v2,c2,wv2,wc2,f2,s2⟩:=Qej r2 0 c1 wr2 Qbs wc1
  have to:=Qih r3 wr3
  have wv3:isW (r3%9223372036854775808+c2):=QoS r3 c2 wr3 wc2
  have u3:=wrap64 _ wv3
  have Z:=(QmC (x0*y0) (x0*y1) (x0*y2) (x0*y3) (x1*y0) (x1*y1) (x1*y2) (x1*y3) (x2*y0) (x2*y1) (x2*y2) (x2*y3) (x3*y0) (x3*y1) (x3*y2) (x3*y3) l00 h00 l01 h01 l02 h02 l03 h03 l10 h10 l11 h11 l12 h12 l13 h13 l20 h20 l21 h21 l22 h22 l23 h23 l30 h30 l31 h31 l32 h32 l33 h33 q00 q01 q02 q03 q10 q11 q12 q13 q20 q21 q22 q23 q30 q31 q32 q33).trans (QoP x0 x1 x2 x3 y0 y1 y2 y3).symm
  rw [ex,ey] at Z
  have F:=QmD l00 l10 l20 l30 l31 l32 l33 h33 r0 r1 r2 r3 k0 k1 k2 k3 v0 v1 v2 c0 c1 c2 _ wr3 Z g0 g1 g2 g3 f0 f1 f2
  have C:∀ w,Calls Tryd.prog 81 #[.int .u64 v0,.int .u64 v1,.int .u64 v2,.int .u64 (r3%9223372036854775808+c2)] w (Ret w (num ((a*b)%p))):=fun w=>by
    have:=reduced v0 v1 v2 (r3%9223372036854775808+c2) wv0 wv1 wv2 wv3 (QkU r0 r1 r2 r3 k3 v0 v1 v2 c0 c1 c2 wr0 wr1 wr2 wr3 hk3 f0 f1 f2) w
    rw [F,Int.sub_mul_emod_self_left] at this
    exact this
  clear F Z
  rw [eX,eY]
  generalize (a*b)%p=r at *
  have HC00:=Lib.hid C00
  have HC01:=Lib.hid C01
  have HC02:=Lib.hid C02
  have HC03:=Lib.hid C03
  have HC10:=Lib.hid C10
  have HC11:=Lib.hid C11
  have HC12:=Lib.hid C12
  have HC13:=Lib.hid C13
  have HC20:=Lib.hid C20
  have HC21:=Lib.hid C21
  have HC22:=Lib.hid C22
  have HC23:=Lib.hid C23
  have HC30:=Lib.hid C30
  have HC31:=Lib.hid C31
  have HC32:=Lib.hid C32
  have HC33:=Lib.hid C33
  have HD0:=Lib.hid D0
  have HD1:=Lib.hid D1
  have HD2:=Lib.hid D2
  have HD3:=Lib.hid D3
  have HC:=Lib.hid C
  clear C C00 C01 C02 C03 C10 C11 C12 C13 C20 C21 C22 C23 C30 C31 C32 C33 D0 D1 D2 D3 q00 q01 q02 q03 q10 q11 q12 q13 q20 q21 q22 q23 q30 q31 q32 q33 g0 g1 g2 g3 f0 f1 f2 ex ey eX eY ha hb
  unfold words
  go_enter Tryd.func66,Tryd.ntmps66
  go_wp2_with first
    | (go_at_call 91
       first
         | (with_reducible refine (HC00.out _).mono ?_)
         | (with_reducible refine (HC01.out _).mono ?_)
         | (with_reducible refine (HC02.out _).mono ?_)
         | (with_reducible refine (HC03.out _).mono ?_)
         | (with_reducible refine (HC10.out _).mono ?_)
         | (with_reducible refine (HC11.out _).mono ?_)
         | (with_reducible refine (HC12.out _).mono ?_)
         | (with_reducible refine (HC13.out _).mono ?_)
         | (with_reducible refine (HC20.out _).mono ?_)
         | (with_reducible refine (HC21.out _).mono ?_)
         | (with_reducible refine (HC22.out _).mono ?_)
         | (with_reducible refine (HC23.out _).mono ?_)
         | (with_reducible refine (HC30.out _).mono ?_)
         | (with_reducible refine (HC31.out _).mono ?_)
         | (with_reducible refine (HC32.out _).mono ?_)
         | (with_reducible refine (HC33.out _).mono ?_)
         | (with_reducible refine (HD0.out _).mono ?_)
         | (with_reducible refine (HD1.out _).mono ?_)
         | (with_reducible refine (HD2.out _).mono ?_)
         | (with_reducible refine (HD3.out _).mono ?_)
       rintro e w' ⟨rfl,rfl⟩)
    | (go_at_call 81
       (with_reducible refine (HC.out _).mono ?_)
       rintro e w' ⟨rfl,hw⟩)
    | (with_reducible show wpList _ _ _ ((⟨_,.store 49 _ _,_,_,_,_⟩:Oper)::_) _ _
       refine wpList_store_row rfl 49 _ _ rfl (w.heap.size+2) (numA r) rfl rfl 49 _ ((hw.block _ (by simp)).trans (Qbw _ _ _ _)) QaS rfl (Qb3 _) ?_)
  exact bodyPost_ret (Qdt (t:=4) rfl rfl (setRow_heap _ _ _ _ _ _ ((hw.block _ (by simp)).trans (Qbw _ _ _ _)))) rfl ⟨rfl,below_setRow (Ext.trans (ext3 _ _ _ _) hw) (by omega) _⟩
end Go.Proofs.YtdoadngmgmdlbaaDoor.Field
end
section
namespace Go.Proofs.YtdoadngmgmdlbaaDoor.Field
open Go Go.RowKit
open Rely
theorem QoI (a : Int) (h:isW a):bits .and .u64 a 1=a%2:=by
  obtain ⟨A,rfl⟩:=Int.eq_ofNat_of_zero_le h.1
  have h:=bits_and_u64_nat A 1 (by have:=h.2; omega) (by omega)
  have e:A&&&1=A%2:=Nat.and_two_pow_sub_one_eq_mod A 1
  rw [e] at h
  exact h
theorem odd (a : Int) (ha:isN a) (w:World):Calls Tryd.prog 51 #[num a] w (Ret w (.bool (a%2==1))):=by
  obtain ⟨x0,x1,x2,x3,wx0,wx1,wx2,wx3,ex,eX⟩:=Qcq a ha
  have o:=QoI x0 wx0
  have e:a%2=x0%2:=by unfold val at ex; omega
  rw [eX,e]
  clear ex eX ha
  unfold words
  go_enter Tryd.func51,Tryd.ntmps51
  go_wp2_with fail
  go_ret
  exact ⟨rfl,QaJ _ _⟩
theorem equal (a b:Int) (ha:isN a) (hb:isN b) (w:World):Calls Tryd.prog 94 #[num a,num b] w (Ret w (.bool (a==b))):=by
  obtain ⟨x0,x1,x2,x3,wx0,wx1,wx2,wx3,ex,eX⟩:=Qcq a ha
  obtain ⟨y0,y1,y2,y3,wy0,wy1,wy2,wy3,ey,eY⟩:=Qcq b hb
  have q:∀ W,(Op.equalIn 9999 47 (.agg #[.int .u64 x0,.int .u64 x1,.int .u64 x2,.int .u64 x3]) (.agg #[.int .u64 y0,.int .u64 y1,.int .u64 y2,.int .u64 y3])).run Tryd.prog W=.ok (a==b) W:=fun W=>by
    have h:=Qde (P:=Tryd.prog) W 9997 Tryd.underlying47 Tryd.underlying46 kj [x0,x1,x2,x3] [y0,y1,y2,y3] rfl rfl
    have e:decide ([x0,x1,x2,x3]=[y0,y1,y2,y3])=(a==b):=by
      have:[x0,x1,x2,x3]=[y0,y1,y2,y3]↔a=b:=by
        simp only [List.cons.injEq,and_true]
        unfold isW val at *
        constructor <;> omega
      rw [Bool.eq_iff_iff]
      simp only [decide_eq_true_eq,beq_iff_eq,this]
    rw [e] at h
    exact h
  have HQ:=Lib.hid q
  clear q
  rw [eX,eY]
  have q:=HQ.out
  clear HQ ex ey eX eY
  generalize (a==b)=r at *
  unfold words
  cases r
  all_goals
    go_enter Tryd.func94,Tryd.ntmps94
    go_wp2_with fail
    go_ret
    exact ⟨rfl,Ext.trans (QaJ _ _) (QaJ _ _)⟩
theorem Qf0 (n : Int) (h:0≤n∧n<9223372036854775808) (w:World):Calls Tryd.prog 67 #[.int .i64 n] w (Ret w (num (n%p))):=by
  have hw:=wrap64 n (by unfold isW; omega)
  have e:num (n%p)=words n 0 0 0:=by
    rw [Qed n 0 0 0 (by unfold isW; omega) Qbs Qbs Qbs]
    congr 1
    unfold val p
    omega
  rw [e]
  have hlt:¬ n<0:=by omega
  unfold words
  go_enter Tryd.func67,Tryd.ntmps67
  go_wp2_with fail
  exact bodyPost_ret (Qf1 (t:=2) rfl rfl (heap_alloc_new w _)) rfl ⟨rfl,QaJ _ _⟩
end Go.Proofs.YtdoadngmgmdlbaaDoor.Field
end
section
namespace Go.Proofs.YtdoadngmgmdlbaaDoor.Field
open Go Go.RowKit
open Rely
def Qap (n : Int) (i:Nat):Int:=n/256^i%256
def part (n : Int) (k:Nat):List Int:=(List.range 32).map fun i=>if i<k then Qap n i else 0
def Qao (n : Int):List Int:=part n 32
theorem wb0 (x0 x1 x2 x3:Int) (h0:isW x0) (h1:isW x1) (h2:isW x2) (h3:isW x3):x0/2^(8*(0%8))%256=Qap (val x0 x1 x2 x3) 0:=by
  have e:(2:Int)^(8*(0%8))=1:=by decide
  have f:(256:Int)^0=1:=by decide
  unfold Qap
  rw [e,f]
  unfold isW val at *
  omega
theorem wb1 (x0 x1 x2 x3:Int) (h0:isW x0) (h1:isW x1) (h2:isW x2) (h3:isW x3):x0/2^(8*(1%8))%256=Qap (val x0 x1 x2 x3) 1:=by
  have e:(2:Int)^(8*(1%8))=256:=by decide
  have f:(256:Int)^1=256:=by decide
  unfold Qap
  rw [e,f]
  unfold isW val at *
  omega
theorem wb2 (x0 x1 x2 x3:Int) (h0:isW x0) (h1:isW x1) (h2:isW x2) (h3:isW x3):x0/2^(8*(2%8))%256=Qap (val x0 x1 x2 x3) 2:=by
  have e:(2:Int)^(8*(2%8))=65536:=by decide
  have f:(256:Int)^2=65536:=by decide
  unfold Qap
  rw [e,f]
  unfold isW val at *
  omega
theorem wb3 (x0 x1 x2 x3:Int) (h0:isW x0) (h1:isW x1) (h2:isW x2) (h3:isW x3):x0/2^(8*(3%8))%256=Qap (val x0 x1 x2 x3) 3:=by
  have e:(2:Int)^(8*(3%8))=16777216:=by decide
  have f:(256:Int)^3=16777216:=by decide
  unfold Qap
  rw [e,f]
  unfold isW val at *
  omega
theorem wb4 (x0 x1 x2 x3:Int) (h0:isW x0) (h1:isW x1) (h2:isW x2) (h3:isW x3):x0/2^(8*(4%8))%256=Qap (val x0 x1 x2 x3) 4:=by
  have e:(2:Int)^(8*(4%8))=4294967296:=by decide
  have f:(256:Int)^4=4294967296:=by decide
  unfold Qap
  rw [e,f]
  unfold isW val at *
  omega
theorem wb5 (x0 x1 x2 x3:Int) (h0:isW x0) (h1:isW x1) (h2:isW x2) (h3:isW x3):x0/2^(8*(5%8))%256=Qap (val x0 x1 x2 x3) 5:=by
  have e:(2:Int)^(8*(5%8))=1099511627776:=by decide
  have f:(256:Int)^5=1099511627776:=by decide
  unfold Qap
  rw [e,f]
  unfold isW val at *
  omega
theorem wb6 (x0 x1 x2 x3:Int) (h0:isW x0) (h1:isW x1) (h2:isW x2) (h3:isW x3):x0/2^(8*(6%8))%256=Qap (val x0 x1 x2 x3) 6:=by
  have e:(2:Int)^(8*(6%8))=281474976710656:=by decide
  have f:(256:Int)^6=281474976710656:=by decide
  unfold Qap
  rw [e,f]
  unfold isW val at *
  omega
theorem wb7 (x0 x1 x2 x3:Int) (h0:isW x0) (h1:isW x1) (h2:isW x2) (h3:isW x3):x0/2^(8*(7%8))%256=Qap (val x0 x1 x2 x3) 7:=by
  have e:(2:Int)^(8*(7%8))=72057594037927936:=by decide
  have f:(256:Int)^7=72057594037927936:=by decide
  unfold Qap
  rw [e,f]
  unfold isW val at *
  omega
theorem wb8 (x0 x1 x2 x3:Int) (h0:isW x0) (h1:isW x1) (h2:isW x2) (h3:isW x3):x1/2^(8*(8%8))%256=Qap (val x0 x1 x2 x3) 8:=by
  have e:(2:Int)^(8*(8%8))=1:=by decide
  have f:(256:Int)^8=18446744073709551616:=by decide
  unfold Qap
  rw [e,f]
  unfold isW val at *
  omega
theorem wb9 (x0 x1 x2 x3:Int) (h0:isW x0) (h1:isW x1) (h2:isW x2) (h3:isW x3):x1/2^(8*(9%8))%256=Qap (val x0 x1 x2 x3) 9:=by
  have e:(2:Int)^(8*(9%8))=256:=by decide
  have f:(256:Int)^9=4722366482869645213696:=by decide
  unfold Qap
  rw [e,f]
  unfold isW val at *
  omega
theorem wb10 (x0 x1 x2 x3:Int) (h0:isW x0) (h1:isW x1) (h2:isW x2) (h3:isW x3):x1/2^(8*(10%8))%256=Qap (val x0 x1 x2 x3) 10:=by
  have e:(2:Int)^(8*(10%8))=65536:=by decide
  have f:(256:Int)^10=1208925819614629174706176:=by decide
  unfold Qap
  rw [e,f]
  unfold isW val at *
  omega
theorem wb11 (x0 x1 x2 x3:Int) (h0:isW x0) (h1:isW x1) (h2:isW x2) (h3:isW x3):x1/2^(8*(11%8))%256=Qap (val x0 x1 x2 x3) 11:=by
  have e:(2:Int)^(8*(11%8))=16777216:=by decide
  have f:(256:Int)^11=309485009821345068724781056:=by decide
  unfold Qap
  rw [e,f]
  unfold isW val at *
  omega
theorem wb12 (x0 x1 x2 x3:Int) (h0:isW x0) (h1:isW x1) (h2:isW x2) (h3:isW x3):x1/2^(8*(12%8))%256=Qap (val x0 x1 x2 x3) 12:=by
  have e:(2:Int)^(8*(12%8))=4294967296:=by decide
  have f:(256:Int)^12=79228162514264337593543950336:=by decide
  unfold Qap
  rw [e,f]
  unfold isW val at *
  omega
theorem wb13 (x0 x1 x2 x3:Int) (h0:isW x0) (h1:isW x1) (h2:isW x2) (h3:isW x3):x1/2^(8*(13%8))%256=Qap (val x0 x1 x2 x3) 13:=by
  have e:(2:Int)^(8*(13%8))=1099511627776:=by decide
  have f:(256:Int)^13=20282409603651670423947251286016:=by decide
  unfold Qap
  rw [e,f]
  unfold isW val at *
  omega
theorem wb14 (x0 x1 x2 x3:Int) (h0:isW x0) (h1:isW x1) (h2:isW x2) (h3:isW x3):x1/2^(8*(14%8))%256=Qap (val x0 x1 x2 x3) 14:=by
  have e:(2:Int)^(8*(14%8))=281474976710656:=by decide
  have f:(256:Int)^14=5192296858534827628530496329220096:=by decide
  unfold Qap
  rw [e,f]
  unfold isW val at *
  omega
theorem wb15 (x0 x1 x2 x3:Int) (h0:isW x0) (h1:isW x1) (h2:isW x2) (h3:isW x3):x1/2^(8*(15%8))%256=Qap (val x0 x1 x2 x3) 15:=by
  have e:(2:Int)^(8*(15%8))=72057594037927936:=by decide
  have f:(256:Int)^15=1329227995784915872903807060280344576:=by decide
  unfold Qap
  rw [e,f]
  unfold isW val at *
  omega
theorem wb16 (x0 x1 x2 x3:Int) (h0:isW x0) (h1:isW x1) (h2:isW x2) (h3:isW x3):x2/2^(8*(16%8))%256=Qap (val x0 x1 x2 x3) 16:=by
  have e:(2:Int)^(8*(16%8))=1:=by decide
  have f:(256:Int)^16=340282366920938463463374607431768211456:=by decide
  unfold Qap
  rw [e,f]
  unfold isW val at *
  omega
theorem wb17 (x0 x1 x2 x3:Int) (h0:isW x0) (h1:isW x1) (h2:isW x2) (h3:isW x3):x2/2^(8*(17%8))%256=Qap (val x0 x1 x2 x3) 17:=by
  have e:(2:Int)^(8*(17%8))=256:=by decide
  have f:(256:Int)^17=87112285931760246646623899502532662132736:=by decide
  unfold Qap
  rw [e,f]
  unfold isW val at *
  omega
theorem wb18 (x0 x1 x2 x3:Int) (h0:isW x0) (h1:isW x1) (h2:isW x2) (h3:isW x3):x2/2^(8*(18%8))%256=Qap (val x0 x1 x2 x3) 18:=by
  have e:(2:Int)^(8*(18%8))=65536:=by decide
  have f:(256:Int)^18=22300745198530623141535718272648361505980416:=by decide
  unfold Qap
  rw [e,f]
  unfold isW val at *
  omega
theorem wb19 (x0 x1 x2 x3:Int) (h0:isW x0) (h1:isW x1) (h2:isW x2) (h3:isW x3):x2/2^(8*(19%8))%256=Qap (val x0 x1 x2 x3) 19:=by
  have e:(2:Int)^(8*(19%8))=16777216:=by decide
  have f:(256:Int)^19=5708990770823839524233143877797980545530986496:=by decide
  unfold Qap
  rw [e,f]
  unfold isW val at *
  omega
theorem wb20 (x0 x1 x2 x3:Int) (h0:isW x0) (h1:isW x1) (h2:isW x2) (h3:isW x3):x2/2^(8*(20%8))%256=Qap (val x0 x1 x2 x3) 20:=by
  have e:(2:Int)^(8*(20%8))=4294967296:=by decide
  have f:(256:Int)^20=1461501637330902918203684832716283019655932542976:=by decide
  unfold Qap
  rw [e,f]
  unfold isW val at *
  omega
theorem wb21 (x0 x1 x2 x3:Int) (h0:isW x0) (h1:isW x1) (h2:isW x2) (h3:isW x3):x2/2^(8*(21%8))%256=Qap (val x0 x1 x2 x3) 21:=by
  have e:(2:Int)^(8*(21%8))=1099511627776:=by decide
  have f:(256:Int)^21=374144419156711147060143317175368453031918731001856:=by decide
  unfold Qap
  rw [e,f]
  unfold isW val at *
  omega
theorem wb22 (x0 x1 x2 x3:Int) (h0:isW x0) (h1:isW x1) (h2:isW x2) (h3:isW x3):x2/2^(8*(22%8))%256=Qap (val x0 x1 x2 x3) 22:=by
  have e:(2:Int)^(8*(22%8))=281474976710656:=by decide
  have f:(256:Int)^22=95780971304118053647396689196894323976171195136475136:=by decide
  unfold Qap
  rw [e,f]
  unfold isW val at *
  omega
theorem wb23 (x0 x1 x2 x3:Int) (h0:isW x0) (h1:isW x1) (h2:isW x2) (h3:isW x3):x2/2^(8*(23%8))%256=Qap (val x0 x1 x2 x3) 23:=by
  have e:(2:Int)^(8*(23%8))=72057594037927936:=by decide
  have f:(256:Int)^23=24519928653854221733733552434404946937899825954937634816:=by decide
  unfold Qap
  rw [e,f]
  unfold isW val at *
  omega
theorem wb24 (x0 x1 x2 x3:Int) (h0:isW x0) (h1:isW x1) (h2:isW x2) (h3:isW x3):x3/2^(8*(24%8))%256=Qap (val x0 x1 x2 x3) 24:=by
  have e:(2:Int)^(8*(24%8))=1:=by decide
  have f:(256:Int)^24=6277101735386680763835789423207666416102355444464034512896:=by decide
  unfold Qap
  rw [e,f]
  unfold isW val at *
  omega
theorem wb25 (x0 x1 x2 x3:Int) (h0:isW x0) (h1:isW x1) (h2:isW x2) (h3:isW x3):x3/2^(8*(25%8))%256=Qap (val x0 x1 x2 x3) 25:=by
  have e:(2:Int)^(8*(25%8))=256:=by decide
  have f:(256:Int)^25=1606938044258990275541962092341162602522202993782792835301376:=by decide
  unfold Qap
  rw [e,f]
  unfold isW val at *
  omega
theorem wb26 (x0 x1 x2 x3:Int) (h0:isW x0) (h1:isW x1) (h2:isW x2) (h3:isW x3):x3/2^(8*(26%8))%256=Qap (val x0 x1 x2 x3) 26:=by
  have e:(2:Int)^(8*(26%8))=65536:=by decide
  have f:(256:Int)^26=411376139330301510538742295639337626245683966408394965837152256:=by decide
  unfold Qap
  rw [e,f]
  unfold isW val at *
  omega
theorem wb27 (x0 x1 x2 x3:Int) (h0:isW x0) (h1:isW x1) (h2:isW x2) (h3:isW x3):x3/2^(8*(27%8))%256=Qap (val x0 x1 x2 x3) 27:=by
  have e:(2:Int)^(8*(27%8))=16777216:=by decide
  have f:(256:Int)^27=105312291668557186697918027683670432318895095400549111254310977536:=by decide
  unfold Qap
  rw [e,f]
  unfold isW val at *
  omega
theorem wb28 (x0 x1 x2 x3:Int) (h0:isW x0) (h1:isW x1) (h2:isW x2) (h3:isW x3):x3/2^(8*(28%8))%256=Qap (val x0 x1 x2 x3) 28:=by
  have e:(2:Int)^(8*(28%8))=4294967296:=by decide
  have f:(256:Int)^28=26959946667150639794667015087019630673637144422540572481103610249216:=by decide
  unfold Qap
  rw [e,f]
  unfold isW val at *
  omega
theorem wb29 (x0 x1 x2 x3:Int) (h0:isW x0) (h1:isW x1) (h2:isW x2) (h3:isW x3):x3/2^(8*(29%8))%256=Qap (val x0 x1 x2 x3) 29:=by
  have e:(2:Int)^(8*(29%8))=1099511627776:=by decide
  have f:(256:Int)^29=6901746346790563787434755862277025452451108972170386555162524223799296:=by decide
  unfold Qap
  rw [e,f]
  unfold isW val at *
  omega
theorem wb30 (x0 x1 x2 x3:Int) (h0:isW x0) (h1:isW x1) (h2:isW x2) (h3:isW x3):x3/2^(8*(30%8))%256=Qap (val x0 x1 x2 x3) 30:=by
  have e:(2:Int)^(8*(30%8))=281474976710656:=by decide
  have f:(256:Int)^30=1766847064778384329583297500742918515827483896875618958121606201292619776:=by decide
  unfold Qap
  rw [e,f]
  unfold isW val at *
  omega
theorem wb31 (x0 x1 x2 x3:Int) (h0:isW x0) (h1:isW x1) (h2:isW x2) (h3:isW x3):x3/2^(8*(31%8))%256=Qap (val x0 x1 x2 x3) 31:=by
  have e:(2:Int)^(8*(31%8))=72057594037927936:=by decide
  have f:(256:Int)^31=452312848583266388373324160190187140051835877600158453279131187530910662656:=by decide
  unfold Qap
  rw [e,f]
  unfold isW val at *
  omega
theorem QnR (x0 x1 x2 x3 n:Int) (h0:isW x0) (h1:isW x1) (h2:isW x2) (h3:isW x3) (e:val x0 x1 x2 x3=n) (k:Nat) (hk:k<32) :
    ∃ y,isW y∧(#[Value.int .u64 x0,.int .u64 x1,.int .u64 x2,.int .u64 x3]:Array Value)[k/8]? = some (.int .u64 y)∧y/2^(8*(k%8))%256=Qap n k:=by
  subst e
  rcases (by omega:k=0∨k=1∨k=2∨k=3∨k=4∨k=5∨k=6∨k=7∨k=8∨k=9∨k=10∨k=11∨k=12∨k=13∨k=14∨k=15∨k=16∨k=17∨k=18∨k=19∨k=20∨k=21∨k=22∨k=23∨k=24∨k=25∨k=26∨k=27∨k=28∨k=29∨k=30∨k=31) with rfl | rfl | rfl | rfl | rfl | rfl | rfl | rfl | rfl | rfl | rfl | rfl | rfl | rfl | rfl | rfl | rfl | rfl | rfl | rfl | rfl | rfl | rfl | rfl | rfl | rfl | rfl | rfl | rfl | rfl | rfl | rfl
  · exact ⟨x0,h0,rfl,wb0 x0 x1 x2 x3 h0 h1 h2 h3⟩
  · exact ⟨x0,h0,rfl,wb1 x0 x1 x2 x3 h0 h1 h2 h3⟩
  · exact ⟨x0,h0,rfl,wb2 x0 x1 x2 x3 h0 h1 h2 h3⟩
  · exact ⟨x0,h0,rfl,wb3 x0 x1 x2 x3 h0 h1 h2 h3⟩
  · exact ⟨x0,h0,rfl,wb4 x0 x1 x2 x3 h0 h1 h2 h3⟩
  · exact ⟨x0,h0,rfl,wb5 x0 x1 x2 x3 h0 h1 h2 h3⟩
  · exact ⟨x0,h0,rfl,wb6 x0 x1 x2 x3 h0 h1 h2 h3⟩
  · exact ⟨x0,h0,rfl,wb7 x0 x1 x2 x3 h0 h1 h2 h3⟩
  · exact ⟨x1,h1,rfl,wb8 x0 x1 x2 x3 h0 h1 h2 h3⟩
  · exact ⟨x1,h1,rfl,wb9 x0 x1 x2 x3 h0 h1 h2 h3⟩
  · exact ⟨x1,h1,rfl,wb10 x0 x1 x2 x3 h0 h1 h2 h3⟩
  · exact ⟨x1,h1,rfl,wb11 x0 x1 x2 x3 h0 h1 h2 h3⟩
  · exact ⟨x1,h1,rfl,wb12 x0 x1 x2 x3 h0 h1 h2 h3⟩
  · exact ⟨x1,h1,rfl,wb13 x0 x1 x2 x3 h0 h1 h2 h3⟩
  · exact ⟨x1,h1,rfl,wb14 x0 x1 x2 x3 h0 h1 h2 h3⟩
  · exact ⟨x1,h1,rfl,wb15 x0 x1 x2 x3 h0 h1 h2 h3⟩
  · exact ⟨x2,h2,rfl,wb16 x0 x1 x2 x3 h0 h1 h2 h3⟩
  · exact ⟨x2,h2,rfl,wb17 x0 x1 x2 x3 h0 h1 h2 h3⟩
  · exact ⟨x2,h2,rfl,wb18 x0 x1 x2 x3 h0 h1 h2 h3⟩
  · exact ⟨x2,h2,rfl,wb19 x0 x1 x2 x3 h0 h1 h2 h3⟩
  · exact ⟨x2,h2,rfl,wb20 x0 x1 x2 x3 h0 h1 h2 h3⟩
  · exact ⟨x2,h2,rfl,wb21 x0 x1 x2 x3 h0 h1 h2 h3⟩
  · exact ⟨x2,h2,rfl,wb22 x0 x1 x2 x3 h0 h1 h2 h3⟩
  · exact ⟨x2,h2,rfl,wb23 x0 x1 x2 x3 h0 h1 h2 h3⟩
  · exact ⟨x3,h3,rfl,wb24 x0 x1 x2 x3 h0 h1 h2 h3⟩
  · exact ⟨x3,h3,rfl,wb25 x0 x1 x2 x3 h0 h1 h2 h3⟩
  · exact ⟨x3,h3,rfl,wb26 x0 x1 x2 x3 h0 h1 h2 h3⟩
  · exact ⟨x3,h3,rfl,wb27 x0 x1 x2 x3 h0 h1 h2 h3⟩
  · exact ⟨x3,h3,rfl,wb28 x0 x1 x2 x3 h0 h1 h2 h3⟩
  · exact ⟨x3,h3,rfl,wb29 x0 x1 x2 x3 h0 h1 h2 h3⟩
  · exact ⟨x3,h3,rfl,wb30 x0 x1 x2 x3 h0 h1 h2 h3⟩
  · exact ⟨x3,h3,rfl,wb31 x0 x1 x2 x3 h0 h1 h2 h3⟩
theorem QgI (n : Int) (k:Nat) (hk:k<32):(ints .u8 (part n k))[k]? = some (.int .u8 0):=by
  rw [Qas _ _ _ (by simp [part,hk])]
  simp [nth,part,hk]
theorem QgH (n : Int) (k:Nat) (hk:k<32):(ints .u8 (part n k)).setIfInBounds k (.int .u8 (Qap n k))=ints .u8 (part n (k+1)):=by
  rw [Qbz]
  congr 1
  apply List.ext_getElem
  · simp [part]
  · intro i h1 h2
    simp only [part,List.getElem_set,List.getElem_map,List.getElem_range]
    by_cases hi:k=i
    · subst hi; simp
    · simp only [hi,if_false]
      by_cases hl:i<k
      · rw [if_pos hl,if_pos (by omega)]
      · rw [if_neg hl,if_neg (by omega)]
theorem QbS (w : World) (a b c:Obj):(((w.alloc a).alloc b).alloc c).heap[w.heap.size+1]? = some b:=by
  rw [Below.heap_alloc _ _ _ (by simp)]
  have:=heap_alloc_new (w.alloc a) b
  simpa using this
theorem infoKey : (Tryd.prog.info? 23).map (·.size)=some 32:=kj
theorem ints_one (k : IntKind) (xs:List Int):(ints k xs).all (·.oneCell')=true:=by simp [ints,Value.oneCell']
theorem bytes (n : Int) (hn:isN n) (w:World):Calls Tryd.prog 50 #[num n] w (Ret w (.agg (ints .u8 (Qao n)))):=by
  obtain ⟨x0,x1,x2,x3,wx0,wx1,wx2,wx3,ex,eX⟩:=Qcq n hn
  rw [eX]
  clear eX
  unfold words
  go_enter Tryd.func50,Tryd.ntmps50
  go_wp2_with fail
  go_loopw [5] (fun i wr=>∃ k:Nat,k≤32∧i=.int .i64 k∧∃ b,b.size=32∧wr=((w.alloc (.cells #[.int .u64 x0,.int .u64 x1,.int .u64 x2,.int .u64 x3] 49)).alloc (.cells b 23)).alloc (.cells (ints .u8 (part n k)) 23)) (fun i _=>32-(intOf i).toNat)
  case atStart=>exact ⟨0,by omega,rfl,_,rfl,rfl⟩
  case round =>
    obtain ⟨k,hk,rfl,b,hbs,rfl⟩:=hrel
    by_cases hlt:k<32
    · obtain ⟨y,wy,hy,hby⟩:=QnR x0 x1 x2 x3 n wx0 wx1 wx2 wx3 ex k hlt
      have hg:=QgI n k hlt
      have hs:=QgH n k hlt
      go_wp2
      exact ⟨⟨k+1,by omega,by go_num,b,hbs,rfl⟩,by simp [intOf]; omega⟩
    · obtain rfl:k=32:=by omega
      have hi:(Tryd.prog.info? 23).map (·.size)=some (ints .u8 (Qao n)).size:=by rw [infoKey,Qae]; rfl
      have hbl:b.size=(ints .u8 (Qao n)).size:=by rw [hbs,Qae]; rfl
      go_wp2_with first
        | (with_reducible show wpList _ _ _ ((⟨_,.load 23 _,_,_,_,_⟩:Oper)::_) _ _
           refine wpList_load_row rfl 23 _ rfl (w.heap.size+2) rfl 23 (ints .u8 (Qao n)) (0,0) _ (Qbw _ _ _ _) Tryd.underlying23 rfl hi ?_)
        | (with_reducible show wpList _ _ _ ((⟨_,.store 23 _ _,_,_,_,_⟩:Oper)::_) _ _
           refine wpList_store_row rfl 23 _ _ rfl (w.heap.size+1) (ints .u8 (Qao n)) rfl rfl 23 _ (QbS _ _ _ _) hi hbl (ints_one _ _) ?_)
      exact bodyPost_ret (v:=.agg (ints .u8 (Qao n))) (results_cell_row (p:=2) rfl _ _ (w.heap.size+1) 23 (ints .u8 (Qao n)) (0,0) _ rfl (setRow_heap _ _ _ _ _ _ (QbS _ _ _ _)) Tryd.underlying23 rfl hi) rfl ⟨rfl,below_setRow (ext3 _ _ _ _) (by omega) _⟩
end Go.Proofs.YtdoadngmgmdlbaaDoor.Field
end
section
namespace Go.Proofs.YtdoadngmgmdlbaaDoor.Field
open Go Go.RowKit
open Rely
def Drew (w w':World):Prop:=∃ n,w'=w.drewN n
theorem Drew.refl (w : World):Drew w w:=⟨0,rfl⟩
theorem Drew.trans {a b c:World}:Drew a b→Drew b c→Drew a c:=fun ⟨m,h⟩ ⟨n,k⟩=>⟨m+n,by subst h; subst k; simp⟩
theorem run_index_ints {P : Program} (W:World) {t e:TypeId} {n:Nat} {k ki:IntKind} (ht:P.underlying t=some (.array n e)) (he:P.underlying e=some (.int k)) (hq:(P.info? e).map (·.size)=some 1)
    (xs:List Int) (hl:xs.length=n) (i:Nat) (hi:i<n):(Instr.index t (.agg (ints k xs)) (.int ki (i:Int))).run P W=.ok (.int k (nth xs i)) W:=by
  have hp:P.plainKey e=true:=by simp [Program.plainKey,he]
  have a1:=run_part_plain W hp (Qas k xs i (by omega))
  unfold Instr.index
  cases hI:P.info? e with
  | none=>simp [hI] at hq
  | some inf =>
    have hs:inf.size=1:=by simpa [hI] using hq
    have h1:((0:Int)≤(i:Int)∧(i:Int)<(n:Int)):=by omega
    simp [asIntOf,run_underlying ht,Sem.run_bind,sizeOf,typeInfo,hI,hs,hi,a1]
def leAt (xs : List Int) (o:Nat):Nat→Int
  | 0=>0
  | m+1=>leAt xs o m+nth xs (o+m)*256^m
def pw (xs : List Int) (k:Nat):List Int:=[leAt xs 0 (min 8 k),leAt xs 8 (min 8 (k-8)),leAt xs 16 (min 8 (k-16)),leAt xs 24 (min 8 (k-24))]
theorem Qbv (xs : List Int) (hb:Qal xs) (o:Nat):∀ m,0≤leAt xs o m∧leAt xs o m<256^m
  | 0=>by simp [leAt]
  | m+1=>by
    have ih:=Qbv xs hb o m
    have h:=hb.nth (o+m)
    have hp:(0:Int)≤256^m:=by have:=ih.1; have:=ih.2; omega
    have h1:0≤nth xs (o+m)*256^m:=Int.mul_nonneg h.1 hp
    have h2:nth xs (o+m)*256^m≤255*256^m:=Int.mul_le_mul_of_nonneg_right h.2 hp
    have e:(256:Int)^(m+1)=256*256^m:=by rw [Int.pow_succ,Int.mul_comm]
    rw [leAt,e]
    have:=ih.1
    have:=ih.2
    omega
theorem Qm0 (s x:Int) (m:Nat) (hm:m<8) (hs:0≤s∧s<256^m) (hx:0≤x∧x≤255) :
    bits .or .u64 s (x*2^(8*m))=s+x*256^m∧0≤x*2^(8*m)∧x*2^(8*m)<18446744073709551616:=by
  obtain ⟨S,rfl⟩:=Int.eq_ofNat_of_zero_le hs.1
  obtain ⟨X,rfl⟩:=Int.eq_ofNat_of_zero_le hx.1
  have key:∀ i:Nat,S<2^i→X*2^i<18446744073709551616→S<18446744073709551616→bits .or .u64 (S:Int) ((X*2^i:Nat):Int)=((S+X*2^i:Nat):Int):=fun i h1 h2 h3=>by
    rw [u64_or_nat S _ h3 h2,Nat.or_comm,Nat.mul_comm,←Nat.two_pow_add_eq_or_of_lt h1,Nat.add_comm]
  have hX:X≤255:=by omega
  rcases (by omega:m=0∨m=1∨m=2∨m=3∨m=4∨m=5∨m=6∨m=7) with rfl | rfl | rfl | rfl | rfl | rfl | rfl | rfl
  · have h:=key 0 (by have:=hs.2; omega) (by omega) (by have:=hs.2; omega)
    have e:(2:Int)^(8*0)=1:=by decide
    have f:(256:Int)^0=1:=by decide
    rw [e,f]
    refine ⟨?_,by omega,by omega⟩
    have g:((X*2^0:Nat):Int)=(X:Int)*1:=by omega
    rw [g] at h
    rw [h]
    omega
  · have h:=key 8 (by have:=hs.2; omega) (by omega) (by have:=hs.2; omega)
    have e:(2:Int)^(8*1)=256:=by decide
    have f:(256:Int)^1=256:=by decide
    rw [e,f]
    refine ⟨?_,by omega,by omega⟩
    have g:((X*2^8:Nat):Int)=(X:Int)*256:=by omega
    rw [g] at h
    rw [h]
    omega
  · have h:=key 16 (by have:=hs.2; omega) (by omega) (by have:=hs.2; omega)
    have e:(2:Int)^(8*2)=65536:=by decide
    have f:(256:Int)^2=65536:=by decide
    rw [e,f]
    refine ⟨?_,by omega,by omega⟩
    have g:((X*2^16:Nat):Int)=(X:Int)*65536:=by omega
    rw [g] at h
    rw [h]
    omega
  · have h:=key 24 (by have:=hs.2; omega) (by omega) (by have:=hs.2; omega)
    have e:(2:Int)^(8*3)=16777216:=by decide
    have f:(256:Int)^3=16777216:=by decide
    rw [e,f]
    refine ⟨?_,by omega,by omega⟩
    have g:((X*2^24:Nat):Int)=(X:Int)*16777216:=by omega
    rw [g] at h
    rw [h]
    omega
  · have h:=key 32 (by have:=hs.2; omega) (by omega) (by have:=hs.2; omega)
    have e:(2:Int)^(8*4)=4294967296:=by decide
    have f:(256:Int)^4=4294967296:=by decide
    rw [e,f]
    refine ⟨?_,by omega,by omega⟩
    have g:((X*2^32:Nat):Int)=(X:Int)*4294967296:=by omega
    rw [g] at h
    rw [h]
    omega
  · have h:=key 40 (by have:=hs.2; omega) (by omega) (by have:=hs.2; omega)
    have e:(2:Int)^(8*5)=1099511627776:=by decide
    have f:(256:Int)^5=1099511627776:=by decide
    rw [e,f]
    refine ⟨?_,by omega,by omega⟩
    have g:((X*2^40:Nat):Int)=(X:Int)*1099511627776:=by omega
    rw [g] at h
    rw [h]
    omega
  · have h:=key 48 (by have:=hs.2; omega) (by omega) (by have:=hs.2; omega)
    have e:(2:Int)^(8*6)=281474976710656:=by decide
    have f:(256:Int)^6=281474976710656:=by decide
    rw [e,f]
    refine ⟨?_,by omega,by omega⟩
    have g:((X*2^48:Nat):Int)=(X:Int)*281474976710656:=by omega
    rw [g] at h
    rw [h]
    omega
  · have h:=key 56 (by have:=hs.2; omega) (by omega) (by have:=hs.2; omega)
    have e:(2:Int)^(8*7)=72057594037927936:=by decide
    have f:(256:Int)^7=72057594037927936:=by decide
    rw [e,f]
    refine ⟨?_,by omega,by omega⟩
    have g:((X*2^56:Nat):Int)=(X:Int)*72057594037927936:=by omega
    rw [g] at h
    rw [h]
    omega
theorem Qmj (xs : List Int) (hb:Qal xs) (k:Nat) (hk:k<32):∃ s s',(ints .u64 (pw xs k))[k/8]? = some (.int .u64 s) ∧
    IntKind.u64.wrap (nth xs k*2^(8*(k%8)))=nth xs k*2^(8*(k%8)) ∧
    bits .or .u64 s (nth xs k*2^(8*(k%8)))=s'∧(ints .u64 (pw xs k)).setIfInBounds (k/8) (.int .u64 s')=ints .u64 (pw xs (k+1)):=by
  have key:=fun o m (hm:m<8)=>Qm0 (leAt xs o m) (nth xs (o+m)) m hm (Qbv xs hb o m) (hb.nth (o+m))
  rcases (by omega:k=0∨k=1∨k=2∨k=3∨k=4∨k=5∨k=6∨k=7∨k=8∨k=9∨k=10∨k=11∨k=12∨k=13∨k=14∨k=15∨k=16∨k=17∨k=18∨k=19∨k=20∨k=21∨k=22∨k=23∨k=24∨k=25∨k=26∨k=27∨k=28∨k=29∨k=30∨k=31) with rfl | rfl | rfl | rfl | rfl | rfl | rfl | rfl | rfl | rfl | rfl | rfl | rfl | rfl | rfl | rfl | rfl | rfl | rfl | rfl | rfl | rfl | rfl | rfl | rfl | rfl | rfl | rfl | rfl | rfl | rfl | rfl
  · exact ⟨leAt xs 0 0,leAt xs 0 1,rfl,wrap64 _ (key 0 0 (by decide)).2,(key 0 0 (by decide)).1,rfl⟩
  · exact ⟨leAt xs 0 1,leAt xs 0 2,rfl,wrap64 _ (key 0 1 (by decide)).2,(key 0 1 (by decide)).1,rfl⟩
  · exact ⟨leAt xs 0 2,leAt xs 0 3,rfl,wrap64 _ (key 0 2 (by decide)).2,(key 0 2 (by decide)).1,rfl⟩
  · exact ⟨leAt xs 0 3,leAt xs 0 4,rfl,wrap64 _ (key 0 3 (by decide)).2,(key 0 3 (by decide)).1,rfl⟩
  · exact ⟨leAt xs 0 4,leAt xs 0 5,rfl,wrap64 _ (key 0 4 (by decide)).2,(key 0 4 (by decide)).1,rfl⟩
  · exact ⟨leAt xs 0 5,leAt xs 0 6,rfl,wrap64 _ (key 0 5 (by decide)).2,(key 0 5 (by decide)).1,rfl⟩
  · exact ⟨leAt xs 0 6,leAt xs 0 7,rfl,wrap64 _ (key 0 6 (by decide)).2,(key 0 6 (by decide)).1,rfl⟩
  · exact ⟨leAt xs 0 7,leAt xs 0 8,rfl,wrap64 _ (key 0 7 (by decide)).2,(key 0 7 (by decide)).1,rfl⟩
  · exact ⟨leAt xs 8 0,leAt xs 8 1,rfl,wrap64 _ (key 8 0 (by decide)).2,(key 8 0 (by decide)).1,rfl⟩
  · exact ⟨leAt xs 8 1,leAt xs 8 2,rfl,wrap64 _ (key 8 1 (by decide)).2,(key 8 1 (by decide)).1,rfl⟩
  · exact ⟨leAt xs 8 2,leAt xs 8 3,rfl,wrap64 _ (key 8 2 (by decide)).2,(key 8 2 (by decide)).1,rfl⟩
  · exact ⟨leAt xs 8 3,leAt xs 8 4,rfl,wrap64 _ (key 8 3 (by decide)).2,(key 8 3 (by decide)).1,rfl⟩
  · exact ⟨leAt xs 8 4,leAt xs 8 5,rfl,wrap64 _ (key 8 4 (by decide)).2,(key 8 4 (by decide)).1,rfl⟩
  · exact ⟨leAt xs 8 5,leAt xs 8 6,rfl,wrap64 _ (key 8 5 (by decide)).2,(key 8 5 (by decide)).1,rfl⟩
  · exact ⟨leAt xs 8 6,leAt xs 8 7,rfl,wrap64 _ (key 8 6 (by decide)).2,(key 8 6 (by decide)).1,rfl⟩
  · exact ⟨leAt xs 8 7,leAt xs 8 8,rfl,wrap64 _ (key 8 7 (by decide)).2,(key 8 7 (by decide)).1,rfl⟩
  · exact ⟨leAt xs 16 0,leAt xs 16 1,rfl,wrap64 _ (key 16 0 (by decide)).2,(key 16 0 (by decide)).1,rfl⟩
  · exact ⟨leAt xs 16 1,leAt xs 16 2,rfl,wrap64 _ (key 16 1 (by decide)).2,(key 16 1 (by decide)).1,rfl⟩
  · exact ⟨leAt xs 16 2,leAt xs 16 3,rfl,wrap64 _ (key 16 2 (by decide)).2,(key 16 2 (by decide)).1,rfl⟩
  · exact ⟨leAt xs 16 3,leAt xs 16 4,rfl,wrap64 _ (key 16 3 (by decide)).2,(key 16 3 (by decide)).1,rfl⟩
  · exact ⟨leAt xs 16 4,leAt xs 16 5,rfl,wrap64 _ (key 16 4 (by decide)).2,(key 16 4 (by decide)).1,rfl⟩
  · exact ⟨leAt xs 16 5,leAt xs 16 6,rfl,wrap64 _ (key 16 5 (by decide)).2,(key 16 5 (by decide)).1,rfl⟩
  · exact ⟨leAt xs 16 6,leAt xs 16 7,rfl,wrap64 _ (key 16 6 (by decide)).2,(key 16 6 (by decide)).1,rfl⟩
  · exact ⟨leAt xs 16 7,leAt xs 16 8,rfl,wrap64 _ (key 16 7 (by decide)).2,(key 16 7 (by decide)).1,rfl⟩
  · exact ⟨leAt xs 24 0,leAt xs 24 1,rfl,wrap64 _ (key 24 0 (by decide)).2,(key 24 0 (by decide)).1,rfl⟩
  · exact ⟨leAt xs 24 1,leAt xs 24 2,rfl,wrap64 _ (key 24 1 (by decide)).2,(key 24 1 (by decide)).1,rfl⟩
  · exact ⟨leAt xs 24 2,leAt xs 24 3,rfl,wrap64 _ (key 24 2 (by decide)).2,(key 24 2 (by decide)).1,rfl⟩
  · exact ⟨leAt xs 24 3,leAt xs 24 4,rfl,wrap64 _ (key 24 3 (by decide)).2,(key 24 3 (by decide)).1,rfl⟩
  · exact ⟨leAt xs 24 4,leAt xs 24 5,rfl,wrap64 _ (key 24 4 (by decide)).2,(key 24 4 (by decide)).1,rfl⟩
  · exact ⟨leAt xs 24 5,leAt xs 24 6,rfl,wrap64 _ (key 24 5 (by decide)).2,(key 24 5 (by decide)).1,rfl⟩
  · exact ⟨leAt xs 24 6,leAt xs 24 7,rfl,wrap64 _ (key 24 6 (by decide)).2,(key 24 6 (by decide)).1,rfl⟩
  · exact ⟨leAt xs 24 7,leAt xs 24 8,rfl,wrap64 _ (key 24 7 (by decide)).2,(key 24 7 (by decide)).1,rfl⟩
theorem QcC (w : World) (a b c:Obj):(((w.alloc a).alloc b).alloc c).heap[w.heap.size]? = some a:=by
  rw [Below.heap_alloc _ _ _ (by simp; omega),Below.heap_alloc _ _ _ (by simp)]
  exact heap_alloc_new w a
theorem set3 (w : World) (a b:Obj) (cs:Array Value) (t:TypeId) (n i:Nat) (v:Value) :
    ((((w.alloc a).alloc b).alloc (.cells cs t)).drewN n).setCell ⟨w.heap.size+1+1,i,none⟩ v=(((w.alloc a).alloc b).alloc (.cells (cs.setIfInBounds i v) t)).drewN n:=by
  have h:∀ W:World,(W.drewN n).setCell ⟨w.heap.size+1+1,i,none⟩ v=(W.setCell ⟨w.heap.size+1+1,i,none⟩ v).drewN n:=fun _=>rfl
  rw [h]
  congr 1
  go_simp
theorem le32 (xs : List Int):val (leAt xs 0 8) (leAt xs 8 8) (leAt xs 16 8) (leAt xs 24 8)=leAt xs 0 32:=by
  simp only [leAt,val,Int.reducePow,Nat.reduceAdd]
  omega
theorem Qfi (xs : List Int) (hb:Qal xs) (o:Nat):isW (leAt xs o 8):=by
  have h:=Qbv xs hb o 8
  have e:(256:Int)^8=18446744073709551616:=by decide
  rw [e] at h
  exact h
theorem Qqz (a b c d n:Int) (ha:isW a) (hb:isW b) (hc:isW c) (hd:isW d) (e:val a b c d=n) :
    val a b c (d%9223372036854775808)=n%57896044618658097711785492504343953926634992332820282019728792003956564819968∧val a b c (d%9223372036854775808)<2*p:=by
  subst e
  unfold isW at *
  unfold val p
  omega
set_option maxRecDepth 100000 in
theorem QmU (xs : List Int) (hl:xs.length=32) (hb:Qal xs) (w:World):Calls Tryd.prog 44 #[.agg (ints .u8 xs)] w (Ret w (num (leAt xs 0 32%57896044618658097711785492504343953926634992332820282019728792003956564819968%p))):=by
  go_enter Tryd.func44,Tryd.ntmps44
  have hi:(Tryd.prog.info? 23).map (·.size)=some (ints .u8 xs).size:=by rw [infoKey,Qae,hl]
  go_wp2_with first
    | (with_reducible show wpList _ _ _ ((⟨_,.load 23 _,_,_,_,_⟩:Oper)::_) _ _
       refine wpList_load_row rfl 23 _ rfl w.heap.size rfl 23 (ints .u8 xs) (0,0) _ (QcC _ _ _ _) Tryd.underlying23 rfl hi ?_)
  go_loopw [7] (fun i wr=>∃ k:Nat,k≤32∧i=.int .i64 k∧∃ b nq,b.size=4∧wr=(((w.alloc (.cells (ints .u8 xs) 23)).alloc (.cells b 49)).alloc (.cells (ints .u64 (pw xs k)) 47)).drewN nq) (fun i _=>32-(intOf i).toNat)
  case atStart=>exact ⟨0,by omega,rfl,_,0,rfl,rfl⟩
  case round =>
    obtain ⟨k,hk,rfl,b,nq,hbs,rfl⟩:=hrel
    by_cases hlt:k<32
    · obtain ⟨s,s',hg,hw,ho,hs⟩:=Qmj xs hb k hlt
      have hx:(ints .u8 xs)[k]? = some (.int .u8 (nth xs k)):=Qas _ _ _ (by omega)
      have q0:(0:Int)≤(k:Int)/8:=by omega
      have q1:(k:Int)/8<4:=by omega
      have q2:IntKind.i64.wrap ((k:Int)/8)=(k:Int)/8:=IntWalk.i64_in _ (by omega)
      have qm:(k:Int).tmod 8=(k:Int)%8:=Int.tmod_eq_emod_of_nonneg (by omega)
      have q3:IntKind.i64.wrap ((k:Int)%8)=(k:Int)%8:=IntWalk.i64_in _ (by omega)
      have q4:IntKind.i64.wrap (8*((k:Int)%8))=8*((k:Int)%8):=IntWalk.i64_in _ (by omega)
      have q5:((k:Int)/8).toNat=k/8:=by omega
      have q6:(8*((k:Int)%8)).toNat=8*(k%8):=by omega
      have q7:(0:Int)≤8*((k:Int)%8):=by omega
      have q8:8*((k:Int)%8)<64:=by omega
      have q9:=wrap64 (nth xs k) (by have:=hb.nth k; unfold isW; omega)
      have hX:∀ W,(Instr.index 23 (.agg (ints .u8 xs)) (.int .i64 (k:Int))).run Tryd.prog W=.ok (.int .u8 (nth xs k)) W:=fun W=>run_index_ints W Tryd.underlying23 Tryd.underlying5 kj xs hl k hlt
      go_wp2
      have hc:∀ W,Drew ((((w.alloc (.cells (ints .u8 xs) 23)).alloc (.cells b 49)).alloc (.cells (ints .u64 (pw xs k)) 47)).drewN nq).drew W→W.cell? ⟨w.heap.size+1+1,k/8,none⟩=some (.int .u64 s):=fun W hR=>by
        obtain ⟨m,rfl⟩:=hR
        have h2:=Qbw w (.cells (ints .u8 xs) 23) (.cells b 49) (.cells (ints .u64 (pw xs k)) 47)
        exact (cell_of_row _ (w.heap.size+2) (k/8) _ _ _ h2).trans hg
      have HC:=Lib.hid hc
      clear hc
      refine Qa8 Drew 12 34 [⟨none,[(4,none)]⟩,⟨none,[(11,some 0)]⟩,⟨none,[(3,none),(12,some 1)]⟩,⟨none,[(13,some 2)]⟩,⟨none,[(5,none)]⟩,⟨none,[(15,some 4)]⟩,⟨none,[(4,none)]⟩,⟨none,[(17,some 6)]⟩,⟨none,[(18,some 7)]⟩,⟨none,[(16,some 5),(19,some 8)]⟩,⟨none,[(14,some 3),(20,some 9)]⟩,⟨none,[(3,none),(12,some 1)]⟩] kj kj rfl Drew.refl Drew.trans (fun F r0 hr hF=>?_)
      have f3:r0 3=.pointer (some ⟨w.heap.size+1+1,0,none⟩):=by rw [hr]; rfl
      have f4:r0 4=.int .i64 k:=by rw [hr]; rfl
      have f5:r0 5=.int .u8 (nth xs k):=by rw [hr]; rfl
      clear hr
      simp only [List.take_succ_cons,List.take_zero]
      repeat
        (try simp only [List.cons_append,List.nil_append]
         apply Qay
         (intro ρ W hR hh
          have hcell:=HC.out W hR
          simp only [Qca,List.getD_cons_zero,List.getD_cons_succ,f3,f4,f5] at hh
          simp only [guarded,QaU]
          go_simp
          first
            | exact ⟨Drew.refl _,rfl⟩
            | exact Drew.refl _))
      try simp only [List.cons_append,List.nil_append]
      refine hF.out fun W hR=>?_
      obtain ⟨m,rfl⟩:=hR
      simp only [List.take_succ_cons,List.take_zero,List.drop_succ_cons,List.drop_zero,fin,forall_eq,Act.put,List.setIfInBounds_toArray,List.set_cons_zero,List.set_cons_succ]
      go_wp2
      refine ⟨⟨k+1,by omega,by go_num,b,nq+1+m,hbs,?_⟩,by simp [intOf]; omega⟩
      rw [set3,hs]
    · obtain rfl:k=32:=by omega
      have l0:=Qfi xs hb 0
      have l1:=Qfi xs hb 8
      have l2:=Qfi xs hb 16
      have l3:=Qfi xs hb 24
      have hp:ints .u64 (pw xs 32)=#[.int .u64 (leAt xs 0 8),.int .u64 (leAt xs 8 8),.int .u64 (leAt xs 16 8),.int .u64 (leAt xs 24 8)]:=rfl
      have ho:=Qih _ l3
      have C:∀ w,Calls Tryd.prog 81 #[.int .u64 (leAt xs 0 8),.int .u64 (leAt xs 8 8),.int .u64 (leAt xs 16 8),.int .u64 (leAt xs 24 8%9223372036854775808)] w (Ret w (num (leAt xs 0 32%57896044618658097711785492504343953926634992332820282019728792003956564819968%p))):=fun w=>by
        have lo:=Qqz _ _ _ _ _ l0 l1 l2 l3 (le32 xs)
        have:=reduced _ _ _ _ l0 l1 l2 (by unfold isW; omega) lo.2 w
        rw [lo.1] at this
        exact this
      generalize leAt xs 0 32%57896044618658097711785492504343953926634992332820282019728792003956564819968%p=r at *
      rw [hp]
      generalize leAt xs 0 8=z0 at *
      generalize leAt xs 8 8=z1 at *
      generalize leAt xs 16 8=z2 at *
      generalize leAt xs 24 8=z3 at *
      have HC:=Lib.hid C
      clear C hp l0 l1 l2 l3
      go_wp2_with first
        | (go_at_call 81
           (with_reducible refine (HC.out _).mono ?_)
           rintro e w' ⟨rfl,hw⟩)
        | (with_reducible show wpList _ _ _ ((⟨_,.store 49 _ _,_,_,_,_⟩:Oper)::_) _ _
           refine wpList_store_row rfl 49 _ _ rfl (w.heap.size+1) (numA r) rfl rfl 49 b ((hw.block _ (by simp)).trans (QbS _ _ _ _)) QaS hbs (Qb3 _) ?_)
      exact bodyPost_ret (Qdt (t:=2) rfl rfl (setRow_heap _ _ _ _ _ _ ((hw.block _ (by simp)).trans (QbS _ _ _ _)))) rfl ⟨rfl,below_setRow (Ext.trans (Ext.trans (ext3 _ _ _ _) (Qls _ _)) hw) (by omega) _⟩
end Go.Proofs.YtdoadngmgmdlbaaDoor.Field
end
section
namespace Go.Proofs.YtdoadngmgmdlbaaDoor.Field
open Go Go.RowKit
open Rely
def pvf (g : Nat→Int):Nat→Int
  | 0=>0
  | k+1=>pvf g k+g k*65536^k
def limb (n : Int) (i:Nat):Int:=n/65536^i%65536
def cr (g : Nat→Int) (k:Nat):Int:=pvf g k/65536^k
theorem QfV (k : Nat):(0:Int)<65536^k:=Int.pow_pos (by decide)
theorem QaV (n : Int) (i:Nat):0≤limb n i∧limb n i<65536:=by unfold limb; omega
theorem QeV (g : Nat→Int):cr g 0=0:=by simp [cr,pvf]
theorem QnJ (g : Nat→Int) (k:Nat):pvf g (k+1)/65536^k=g k+cr g k:=by
  unfold cr
  rw [pvf,Int.add_mul_ediv_right _ _ (Int.ne_of_gt (QfV k)),Int.add_comm]
theorem QeW (g : Nat→Int) (k:Nat):(g k+cr g k)/65536=cr g (k+1):=by
  rw [←QnJ]
  unfold cr
  rw [Int.pow_succ,Int.ediv_ediv_of_nonneg (Int.le_of_lt (QfV k))]
theorem Qps (g : Nat→Int) (k:Nat):(g k+cr g k)%65536=limb (pvf g (k+1)) k:=by
  rw [←QnJ]
  rfl
theorem Qht (g : Nat→Int) (k:Nat):∀ m,∃ r,pvf g (k+m)=pvf g k+r*65536^k
  | 0=>⟨0,by simp⟩
  | m+1=>by
    obtain ⟨r,h⟩:=Qht g k m
    refine ⟨r+g (k+m)*65536^m,?_⟩
    rw [←Nat.add_assoc,pvf,h,Int.pow_add,Int.add_mul,Int.mul_assoc,Int.mul_comm (65536^m),Int.add_assoc]
theorem Qi0 (g : Nat→Int) (k n:Nat) (h:k<n):limb (pvf g (k+1)) k=limb (pvf g n) k:=by
  obtain ⟨m,rfl⟩:∃ m,n=k+1+m:=⟨n-(k+1),by omega⟩
  obtain ⟨r,hr⟩:=Qht g (k+1) m
  unfold limb
  rw [hr,Int.pow_succ,←Int.mul_assoc,Int.mul_right_comm,Int.add_mul_ediv_right _ _ (Int.ne_of_gt (QfV k)),Int.add_mul_emod_self_right]
theorem Qdp (g : Nat→Int) (k n:Nat) (h:k<n):(g k+cr g k)%65536=limb (pvf g n) k:=by
  rw [Qps,Qi0 g k n h]
theorem Qf4 (g : Nat→Int) (n:Nat) (hg:∀ i,i<n→0≤g i∧g i<65536):∀ k,k≤n→0≤pvf g k∧pvf g k<65536^k
  | 0,_=>by simp [pvf]
  | k+1,h=>by
    have ih:=Qf4 g n hg k (by omega)
    have h0:=hg k (by omega)
    have hp:=QfV k
    have h1:0≤g k*65536^k:=Int.mul_nonneg h0.1 (Int.le_of_lt hp)
    have h2:g k*65536^k≤65535*65536^k:=Int.mul_le_mul_of_nonneg_right (by omega) (Int.le_of_lt hp)
    rw [pvf,Int.pow_succ]
    omega
theorem QgX (g : Nat→Int) (M:Int) (n:Nat) (hM:65536≤M) (hg:∀ i,i<n→0≤g i∧g i≤M):∀ k,k≤n→0≤cr g k∧cr g k≤M
  | 0,_=>by rw [QeV]; omega
  | k+1,h=>by
    have ih:=QgX g M n hM hg k (by omega)
    have h0:=hg k (by omega)
    rw [←QeW]
    omega
theorem QcN (n : Int):∀ k,pvf (limb n) k=n%65536^k
  | 0=>by simp [pvf,Int.emod_one]
  | k+1=>by
    rw [pvf,QcN n k]
    unfold limb
    rw [Int.pow_succ,Int.emod_def n,Int.emod_def n,Int.emod_def (n/_),←Int.ediv_ediv_of_nonneg (Int.le_of_lt (QfV k))]
    generalize n/65536^k=q
    generalize (65536:Int)^k=b
    generalize q/65536=r
    grind
theorem QoV (g : Nat→Int) (n:Nat) (hg:∀ i,i<n→0≤g i∧g i<65536) (k:Nat) (hk:k<n):limb (pvf g n) k=g k:=by
  rw [←Qdp g k n hk]
  have h1:=hg k hk
  have:cr g k=0:=by
    have:=Qf4 g n hg k (by omega)
    unfold cr
    exact Int.ediv_eq_zero_of_lt this.1 this.2
  rw [this]
  omega
theorem QcG {g h:Nat→Int} {n:Nat} (e:∀ i,i<n→g i=h i):∀ k,k≤n→pvf g k=pvf h k
  | 0,_=>rfl
  | k+1,hk=>by rw [pvf,pvf,QcG e k (by omega),e k (by omega)]
theorem QgB (g h:Nat→Int):∀ k,pvf (fun i=>g i+h i) k=pvf g k+pvf h k
  | 0=>rfl
  | k+1=>by simp only [pvf]; rw [QgB g h k,Int.add_mul]; omega
theorem QiS (c : Int) (g:Nat→Int):∀ k,pvf (fun i=>c*g i) k=c*pvf g k
  | 0=>by simp [pvf]
  | k+1=>by simp only [pvf]; rw [QiS c g k,Int.mul_add,Int.mul_assoc]
theorem Qhs (g : Nat→Int) (k:Nat):∀ m,pvf g (k+m)=pvf g k+pvf (fun i=>g (i+k)) m*65536^k
  | 0=>by simp [pvf]
  | m+1=>by
    rw [←Nat.add_assoc,pvf,Qhs g k m,pvf,Int.add_mul,Nat.add_comm m k,Int.pow_add]
    rw [Int.mul_assoc (g (k+m)),Int.mul_comm (65536^m),Int.add_assoc]
theorem QjS (n : Int) (i k:Nat):limb n (i+k)=limb (n/65536^k) i:=by
  unfold limb
  rw [Int.ediv_ediv_of_nonneg (Int.le_of_lt (QfV k)),←Int.pow_add,Nat.add_comm k i]
def mix (N : Nat) (f g:Nat→Int) (k:Nat):List Int:=(List.range N).map fun i=>if i<k then f i else g i
theorem mix_len (N : Nat) (f g:Nat→Int) (k:Nat):(mix N f g k).length=N:=by simp [mix]
theorem mix_nth (N : Nat) (f g:Nat→Int) (k i:Nat) (hi:i<N):nth (mix N f g k) i=if i<k then f i else g i:=by simp [nth,mix,hi]
theorem mix_full (N : Nat) (f g:Nat→Int) (k:Nat) (h:N≤k):mix N f g k=(List.range N).map f:=by
  unfold mix
  refine List.map_congr_left fun i hi=>?_
  have:=List.mem_range.1 hi
  rw [if_pos (by omega)]
theorem mix_none (N : Nat) (f g:Nat→Int):mix N f g 0=(List.range N).map g:=by
  unfold mix
  exact List.map_congr_left fun i hi=>by simp
theorem mix_set (N : Nat) (f g:Nat→Int) (k:Nat) (hk:k<N):(mix N f g k).set k (f k)=mix N f g (k+1):=by
  apply List.ext_getElem
  · simp [mix]
  · intro i h1 h2
    simp only [mix,List.getElem_set,List.getElem_map,List.getElem_range]
    by_cases hi:k=i
    · subst hi; simp
    · simp only [hi,if_false]
      by_cases hl:i<k
      · rw [if_pos hl,if_pos (by omega)]
      · rw [if_neg hl,if_neg (by omega)]
theorem Qhq (xs : List Int) (N:Nat) (h:xs.length=N):(List.range N).map (nth xs)=xs:=by
  apply List.ext_getElem
  · simp [h]
  · intro i h1 h2
    simp [nth,h2]
def lims (n : Int):List Int:=(List.range 16).map (limb n)
theorem QaM (n : Int):(lims n).length=16:=by simp [lims]
theorem QcP (n : Int) (i:Nat) (h:i<16):nth (lims n) i=limb n i:=by simp [nth,lims,h]
def Qc5 (n : Int) (i:Nat):Int:=if i<16 then limb n i+38*limb n (i+16) else 0
def QbF (n : Int):Int:=n%65536^16+38*(n/65536^16)
theorem QgA : ∀ k,pvf (fun _=>0) k=0
  | 0=>rfl
  | k+1=>by rw [pvf,QgA k]; simp
theorem QmW (n : Int) (h:0≤n∧n<65536^32):pvf (Qc5 n) 32=QbF n:=by
  have e0:pvf (Qc5 n) (16+16)=pvf (Qc5 n) 16+pvf (fun i=>Qc5 n (i+16)) 16*65536^16:=Qhs _ 16 16
  have e1:pvf (fun i=>Qc5 n (i+16)) 16=0:=by
    rw [QcG (h:=fun _=>0) (n:=16) (fun i hi=>by unfold Qc5; rw [if_neg (by omega)]) 16 (qR _)]
    exact QgA 16
  have e2:pvf (Qc5 n) 16=pvf (fun i=>limb n i+38*limb n (i+16)) 16 :=
    QcG (fun i hi=>by unfold Qc5; rw [if_pos hi]) 16 (qR _)
  have e3:pvf (fun i=>limb n (i+16)) 16=n/65536^16:=by
    rw [QcG (h:=limb (n/65536^16)) (n:=16) (fun i hi=>QjS n i 16) 16 (qR _),QcN]
    exact Int.emod_eq_of_lt (Int.ediv_nonneg h.1 (Int.le_of_lt (QfV 16))) (Int.ediv_lt_of_lt_mul (QfV 16) (by rw [←Int.pow_add]; exact h.2))
  have e4:=QgB (limb n) (fun i=>38*limb n (i+16)) 16
  have e5:=QiS 38 (fun i=>limb n (i+16)) 16
  rw [show (32:Nat)=16+16 from rfl,e0,e1,e2,e4,e5,e3,QcN]
  unfold QbF
  omega
theorem QhL (n : Int) (i:Nat):0≤Qc5 n i∧Qc5 n i≤2555865:=by
  unfold Qc5
  have:=QaV n i
  have:=QaV n (i+16)
  split <;> omega
theorem four (n : Int) (h:0≤n∧n<65536^32):0≤QbF n∧QbF n<65536^32∧0≤QbF (QbF n)∧QbF (QbF n)<65536^32∧0≤QbF (QbF (QbF n))∧QbF (QbF (QbF n))<65536^32 ∧
    0≤QbF (QbF (QbF (QbF n)))∧QbF (QbF (QbF (QbF n)))<65536^16∧QbF (QbF (QbF (QbF n)))%57896044618658097711785492504343953926634992332820282019728792003956564819949=n%57896044618658097711785492504343953926634992332820282019728792003956564819949:=by
  have e1:(65536:Int)^16=115792089237316195423570985008687907853269984665640564039457584007913129639936:=by decide
  have e2:(65536:Int)^32=13407807929942597099574024998205846127479365820592393377723561443721764030073546976801874298166903427690031858186486050853753882811946569946433649006084096:=by decide
  have step:∀ m:Int,QbF m=m-115792089237316195423570985008687907853269984665640564039457584007913129639898*(m/115792089237316195423570985008687907853269984665640564039457584007913129639936):=fun m=>by
    unfold QbF; rw [e1]; omega
  rw [e1,e2] at *
  generalize hq1:n/115792089237316195423570985008687907853269984665640564039457584007913129639936=q1
  have s1:=step n
  rw [hq1] at s1
  have b1:0≤QbF n∧QbF n<4515891480255331621519268415338828406277529401959981997538845776308612055957504:=by omega
  generalize QbF n=m1 at *
  have s2:=step m1
  generalize hq2:m1/115792089237316195423570985008687907853269984665640564039457584007913129639936=q2 at *
  have b2:0≤QbF m1∧QbF m1<115792089237316195423570985008687907853269984665640564039457584007913129639936+38*38:=by omega
  generalize QbF m1=m2 at *
  have s3:=step m2
  generalize hq3:m2/115792089237316195423570985008687907853269984665640564039457584007913129639936=q3 at *
  have b3:0≤QbF m2∧QbF m2<115792089237316195423570985008687907853269984665640564039457584007913129639936:=by omega
  generalize QbF m2=m3 at *
  have s4:=step m3
  generalize hq4:m3/115792089237316195423570985008687907853269984665640564039457584007913129639936=q4 at *
  have b4:0≤QbF m3∧QbF m3<115792089237316195423570985008687907853269984665640564039457584007913129639936:=by omega
  generalize QbF m3=m4 at *
  refine ⟨by omega,by omega,by omega,by omega,by omega,by omega,by omega,by omega,?_⟩
  have:m4=n-2*57896044618658097711785492504343953926634992332820282019728792003956564819949*(q1+q2+q3+q4):=by omega
  omega
end Go.Proofs.YtdoadngmgmdlbaaDoor.Field
end
section
namespace Go.Proofs.YtdoadngmgmdlbaaDoor.Prime
def IsP (n : Nat):Prop:=1<n∧∀ d,d ∣ n→d=1∨d=n
def prods : List Nat→Nat
  | []=>1
  | q::l=>q*prods l
theorem onto : ∀ (n:Nat) (f:Nat→Nat),(∀ i,i<n→f i<n)→(∀ i j,i<n→j<n→f i=f j→i=j)→∀ y,y<n→∃ i,i<n∧f i=y
  | 0,_,_,_,y,hy=>absurd hy (Nat.not_lt_zero y)
  | n+1,f,hf,hi,y,hy=>by
    have key:∀ i,i<n→f i=n→f n<n:=fun i h e=>by
      have h1:=hf n (by omega)
      rcases Nat.lt_or_ge (f n) n with h2 | h2
      · exact h2
      · have:=hi i n (by omega) (by omega) (by omega)
        omega
    have IH:=onto n (fun i=>if f i=n then f n else f i) (fun i h=>by
        show (if f i=n then f n else f i)<n
        by_cases e:f i=n
        · rw [if_pos e]; exact key i h e
        · rw [if_neg e]; have:=hf i (by omega); omega)
      (fun i j h1 h2 h=>by
        have h':(if f i=n then f n else f i)=(if f j=n then f n else f j):=h
        by_cases e1:f i=n <;> by_cases e2:f j=n
        · exact hi i j (by omega) (by omega) (by omega)
        · rw [if_pos e1,if_neg e2] at h'
          have:=hi n j (by omega) (by omega) h'
          omega
        · rw [if_neg e1,if_pos e2] at h'
          have:=hi i n (by omega) (by omega) h'
          omega
        · rw [if_neg e1,if_neg e2] at h'
          exact hi i j (by omega) (by omega) h')
    have back:∀ z,z<n→∃ i,i<n+1∧f i=z:=fun z hz=>by
      obtain ⟨i,h1,h2⟩:=IH z hz
      have h2':(if f i=n then f n else f i)=z:=h2
      by_cases e:f i=n
      · rw [if_pos e] at h2'; exact ⟨n,by omega,h2'⟩
      · rw [if_neg e] at h2'; exact ⟨i,by omega,h2'⟩
    rcases Nat.lt_or_ge y n with h | h
    · exact back y h
    · have e:y=n:=by omega
      subst e
      by_cases e2:f y=y
      · exact ⟨y,by omega,e2⟩
      · have h3:f y<y:=by have:=hf y (by omega); omega
        obtain ⟨i,h1,h2⟩:=IH (f y) h3
        have h2':(if f i=y then f y else f i)=f y:=h2
        by_cases e3:f i=y
        · exact ⟨i,by omega,e3⟩
        · rw [if_neg e3] at h2'
          have:=hi i y (by omega) (by omega) h2'
          omega
theorem Qec (N a b k:Nat) (h:a%N=1%N):(a^k*b)%N=b%N:=by
  rw [Nat.mul_mod,Nat.pow_mod,h,←Nat.pow_mod,Nat.one_pow,←Nat.mul_mod,Nat.one_mul]
theorem Qov (N g:Nat):∀ m n,g^m%N=1%N→g^n%N=1%N→g^(Nat.gcd m n)%N=1%N:=by
  intro m n
  induction m,n using Nat.gcd.induction with
  | H0 n=>intro _ h; simpa using h
  | H1 m n hm ih =>
    intro h1 h2
    rw [Nat.gcd_rec]
    refine ih ?_ h1
    have e:g^n=(g^m)^(n/m)*g^(n%m):=by
      rw [←Nat.pow_mul,←Nat.pow_add,Nat.div_add_mod]
    rw [e,Qec N _ _ _ h1] at h2
    exact h2
theorem QhR : ∀ (qs:List Nat) (e:Nat),(∀ q∈qs,IsP q)→e ∣ prods qs→1<e→∃ q∈qs,q ∣ e
  | [],e,_,h,h1=>by
    have:=Nat.le_of_dvd (by decide) h
    simp only [prods] at this
    omega
  | q::l,e,hq,h,h1=>by
    have hp:=hq q List.mem_cons_self
    rcases hp.2 (Nat.gcd q e) (Nat.gcd_dvd_left q e) with hg | hg
    · have h2:e ∣ prods l:=by
        have hc:Nat.Coprime e q:=by rw [Nat.Coprime,Nat.gcd_comm]; exact hg
        exact hc.dvd_of_dvd_mul_left h
      obtain ⟨r,h3,h4⟩:=QhR l e (fun r hr=>hq r (List.mem_cons_of_mem _ hr)) h2 h1
      exact ⟨r,List.mem_cons_of_mem _ h3,h4⟩
    · exact ⟨q,List.mem_cons_self,by rw [←hg]; exact Nat.gcd_dvd_right q e⟩
theorem order (N g:Nat) (qs:List Nat) (h1:1<N) (hq:∀ q∈qs,IsP q) (hprod:prods qs=N-1) (hne:∀ q∈qs,g^((N-1)/q)%N≠1)
    (hone:g^(N-1)%N=1) (m:Nat) (hm:0<m) (hlt:m<N-1) (h:g^m%N=1):False:=by
  have e1:1%N=1:=Nat.mod_eq_of_lt h1
  have hd:=Qov N g m (N-1) (by rw [e1]; exact h) (by rw [e1]; exact hone)
  have d1:Nat.gcd m (N-1) ∣ N-1:=Nat.gcd_dvd_right _ _
  have d2:Nat.gcd m (N-1)≤m:=Nat.le_of_dvd hm (Nat.gcd_dvd_left _ _)
  generalize hD:Nat.gcd m (N-1)=d at *
  obtain ⟨e,he⟩:=d1
  have epos:1<e:=by
    rcases (by omega:e=0∨e=1∨1<e) with h0 | h0 | h0
    · subst h0; simp at he; omega
    · subst h0; simp at he; omega
    · exact h0
  obtain ⟨q,hq1,hq2⟩:=QhR qs e hq (by rw [hprod,he]; exact Nat.dvd_mul_left e d) epos
  obtain ⟨r,hr⟩:=hq2
  have qpos:0<q:=by have:=(hq q hq1).1; omega
  refine hne q hq1 ?_
  have e3:(N-1)/q=d*r:=by
    rw [he,hr,show d*(q*r)=q*(d*r) by rw [←Nat.mul_assoc,Nat.mul_comm d q,Nat.mul_assoc]]
    exact Nat.mul_div_cancel_left _ qpos
  have:=Qec N (g^d) 1 r hd
  rw [Nat.mul_one,←Nat.pow_mul,e1] at this
  rw [e3]
  exact this
theorem Qkc (N g:Nat) (qs:List Nat) (h1:1<N) (hq:∀ q∈qs,IsP q) (hprod:prods qs=N-1) (hne:∀ q∈qs,g^((N-1)/q)%N≠1)
    (hone:g^(N-1)%N=1) (a:Nat) (ha:0<a) (hlt:a<N):∃ k,g^k%N=a:=by
  have e1:1%N=1:=Nat.mod_eq_of_lt h1
  have hone':g^(N-1)%N=1%N:=by rw [e1]; exact hone
  have up:∀ b,(g^(N-1)*b)%N=b%N:=fun b=>by
    have:=Qec N (g^(N-1)) b 1 hone'
    rwa [Nat.pow_one] at this
  have hpos:∀ i,i<N-1→0<g^i%N:=fun i hi=>by
    rcases Nat.eq_zero_or_pos (g^i%N) with h | h
    · have:g^(N-1)%N=0:=by
        rw [show N-1=i+(N-1-i) by omega,Nat.pow_add,Nat.mul_mod,h,Nat.zero_mul,Nat.zero_mod]
      omega
    · exact h
  have inj:∀ i j,i<j→j<N-1→g^i%N=g^j%N→False:=fun i j hij hj h=>by
    refine order N g qs h1 hq hprod hne hone (j-i) (by omega) (by omega) ?_
    have e2:(g^(N-1-i)*g^i)%N=(g^(N-1-i)*g^j)%N:=by rw [Nat.mul_mod,h,←Nat.mul_mod]
    rw [←Nat.pow_add,←Nat.pow_add,show N-1-i+i=N-1 by omega,show N-1-i+j=N-1+(j-i) by omega,Nat.pow_add,up,hone] at e2
    exact e2.symm
  obtain ⟨i,h2,h3⟩:=onto (N-1) (fun i=>g^i%N-1) (fun i hi=>by
      show g^i%N-1<N-1
      have:=hpos i hi
      have:=Nat.mod_lt (g^i) (show 0<N by omega)
      omega)
    (fun i j hi hj h=>by
      have h':g^i%N-1=g^j%N-1:=h
      have:=hpos i hi
      have:=hpos j hj
      rcases Nat.lt_trichotomy i j with h4 | h4 | h4
      · exact (inj i j h4 hj (by omega)).elim
      · exact h4
      · exact (inj j i h4 hi (by omega)).elim) (a-1) (by omega)
  have h3':g^i%N-1=a-1:=h3
  have:=hpos i h2
  exact ⟨i,by omega⟩
theorem QhP (N g:Nat) (h1:1<N) (hone:g^(N-1)%N=1) (hall:∀ a,0<a→a<N→∃ k,g^k%N=a) (a:Nat) (ha:a%N≠0):a^(N-1)%N=1:=by
  obtain ⟨k,hk⟩:=hall (a%N) (by omega) (Nat.mod_lt _ (by omega))
  have e1:1%N=1:=Nat.mod_eq_of_lt h1
  rw [Nat.pow_mod,←hk,←Nat.pow_mod,←Nat.pow_mul,Nat.mul_comm,Nat.pow_mul,Nat.pow_mod,hone,Nat.one_pow,e1]
theorem Qmk (N g:Nat) (h1:1<N) (hone:g^(N-1)%N=1) (hall:∀ a,0<a→a<N→∃ k,g^k%N=a):IsP N:=by
  refine ⟨h1,fun d hd=>?_⟩
  have hle:=Nat.le_of_dvd (by omega) hd
  rcases Nat.eq_or_lt_of_le hle with h | h
  · exact .inr h
  · left
    have d0:0<d:=Nat.pos_of_dvd_of_pos hd (by omega)
    have hf:=QhP N g h1 hone hall d (by rw [Nat.mod_eq_of_lt h]; omega)
    by_cases hN:N-1=0
    · omega
    · have h2:d ∣ d^(N-1):=by
        rw [show N-1=(N-2)+1 by omega,Nat.pow_succ]
        exact Nat.dvd_mul_left d _
      have h3:d ∣ d^(N-1)%N:=(Nat.dvd_mod_iff hd).2 h2
      rw [hf] at h3
      exact Nat.dvd_one.1 h3
def pm (N : Nat):Nat→Nat→Nat→Nat
  | 0,_,_=>1%N
  | f+1,g,e=>let h:=pm N f (g*g%N) (e/2); if e%2=1 then g*h%N else h
theorem pm_eq (N : Nat):∀ f g e,e<2^f→pm N f g e=g^e%N
  | 0,g,e,h=>by
    have:e=0:=by simpa using h
    subst this
    simp [pm]
  | f+1,g,e,h=>by
    have hm:g*g%N%N=g*g%N:=Nat.mod_mod _ _
    have ih:=pm_eq N f (g*g%N) (e/2) (by rw [Nat.pow_succ] at h; omega)
    have e2:(g*g%N)^(e/2)%N=(g*g)^(e/2)%N:=by rw [Nat.pow_mod,hm,←Nat.pow_mod]
    have e3:(g*g)^(e/2)=g^(2*(e/2)):=by rw [Nat.pow_mul,Nat.pow_succ,Nat.pow_one]
    simp only [pm]
    rw [ih,e2,e3]
    by_cases ho:e%2=1
    · rw [if_pos ho]
      have:g^e=g*g^(2*(e/2)):=by
        rw [Nat.mul_comm,←Nat.pow_succ]
        congr 1
        omega
      rw [this,Nat.mul_mod,Nat.mod_mod,←Nat.mul_mod]
    · rw [if_neg ho]
      congr 2
      omega
def Qm8 (q : Nat):Nat→Bool
  | 0=>true
  | k+1=>(decide (k+2=q) || q%(k+2) != 0)&&Qm8 q k
theorem QeO (q : Nat):∀ k,Qm8 q k=true→∀ d,2≤d→d<k+2→d ∣ q→d=q
  | 0,_,d,h1,h2,_=>by omega
  | k+1,h,d,h1,h2,h3=>by
    simp only [Qm8,Bool.and_eq_true,Bool.or_eq_true,decide_eq_true_eq,bne_iff_ne,ne_eq] at h
    rcases Nat.lt_or_ge d (k+2) with h4 | h4
    · exact QeO q k h.2 d h1 h4 h3
    · have:d=k+2:=by omega
      subst this
      rcases h.1 with h5 | h5
      · exact h5
      · exact absurd (Nat.mod_eq_zero_of_dvd h3) h5
theorem QaN (q k:Nat) (h:(decide (1<q)&&decide (q<(k+2)*(k+2))&&Qm8 q k)=true):IsP q:=by
  simp only [Bool.and_eq_true,decide_eq_true_eq] at h
  obtain ⟨⟨h1,h2⟩,h3⟩:=h
  refine ⟨h1,fun d hd=>?_⟩
  obtain ⟨e,he⟩:=hd
  have dpos:0<d:=by
    rcases Nat.eq_zero_or_pos d with h | h; · subst h; simp at he; omega
    · exact h
  have epos:0<e:=by
    rcases Nat.eq_zero_or_pos e with h | h; · subst h; simp at he; omega
    · exact h
  rcases (by omega:d=1∨2≤d) with h4 | h4
  · exact .inl h4
  · rcases (by omega:e=1∨2≤e) with h5 | h5
    · subst h5; right; omega
    · rcases Nat.lt_or_ge d (k+2) with h6 | h6
      · right; exact QeO q k h3 d h4 h6 ⟨e,he⟩
      · rcases Nat.lt_or_ge e (k+2) with h7 | h7
        · have:=QeO q k h3 e h5 h7 ⟨d,by rw [he,Nat.mul_comm]⟩
          left
          rw [this] at he
          have:q*1=q*d:=by rw [Nat.mul_one,Nat.mul_comm]; exact he
          exact (Nat.eq_of_mul_eq_mul_left (by omega) this).symm
        · have:=Nat.mul_le_mul h6 h7
          omega
def QnO (N g:Nat) (qs:List Nat):Bool:=decide (1<N)&&decide (N<2^256)&&decide (prods qs=N-1)&&(pm N 256 g (N-1)==1)&&qs.all fun q=>pm N 256 g ((N-1)/q) != 1
theorem cert (N g:Nat) (qs:List Nat) (hq:∀ q∈qs,IsP q) (h:QnO N g qs=true):IsP N∧(∀ a,a%N≠0→a^(N-1)%N=1)∧∀ a,0<a→a<N→∃ k,g^k%N=a:=by
  simp only [QnO,Bool.and_eq_true,decide_eq_true_eq,beq_iff_eq,List.all_eq_true,bne_iff_ne,ne_eq] at h
  obtain ⟨⟨⟨⟨h1,h2⟩,h3⟩,h4⟩,h5⟩:=h
  rw [pm_eq N 256 g (N-1) (by omega)] at h4
  have hne:∀ q∈qs,g^((N-1)/q)%N≠1:=fun q hm=>by
    have:=h5 q hm
    rwa [pm_eq N 256 g _ (by have:=Nat.div_le_self (N-1) q; omega)] at this
  have hall:=Qkc N g qs h1 hq h3 hne h4
  exact ⟨Qmk N g h1 h4 hall,QhP N g h1 h4 hall,hall⟩
theorem p2 : IsP 2:=QaN 2 0 (by decide +kernel)
theorem p3 : IsP 3:=QaN 3 0 (by decide +kernel)
theorem p5 : IsP 5:=QaN 5 1 (by decide +kernel)
theorem p7 : IsP 7:=QaN 7 1 (by decide +kernel)
theorem p13 : IsP 13:=QaN 13 2 (by decide +kernel)
theorem p19 : IsP 19:=QaN 19 3 (by decide +kernel)
theorem p31 : IsP 31:=QaN 31 4 (by decide +kernel)
theorem p47 : IsP 47:=QaN 47 5 (by decide +kernel)
theorem p103 : IsP 103:=QaN 103 9 (by decide +kernel)
theorem p107 : IsP 107:=QaN 107 9 (by decide +kernel)
theorem p127 : IsP 127:=QaN 127 10 (by decide +kernel)
theorem p223 : IsP 223:=QaN 223 13 (by decide +kernel)
theorem p353 : IsP 353:=QaN 353 17 (by decide +kernel)
theorem p991 : IsP 991:=QaN 991 30 (by decide +kernel)
theorem Qre : IsP 2437:=QaN 2437 48 (by decide +kernel)
theorem Qrd : IsP 4153:=QaN 4153 63 (by decide +kernel)
theorem Qql : IsP 57467:=QaN 57467 238 (by decide +kernel)
theorem Qqk : IsP 65147:=QaN 65147 254 (by decide +kernel)
theorem Qqj : IsP 75707:=QaN 75707 274 (by decide +kernel)
theorem QoB : IsP 132049:=QaN 132049 362 (by decide +kernel)
theorem QoA : IsP 430751:=QaN 430751 655 (by decide +kernel)
theorem Qo9 : IsP 569003:=QaN 569003 753 (by decide +kernel)
theorem Qmt : IsP 1923133:=QaN 1923133 1385 (by decide +kernel)
theorem Qms : IsP 8574133:=(cert 8574133 2 [2,2,3,7,103,991] (by
  intro q hq
  simp only [List.mem_cons,List.not_mem_nil,or_false] at hq
  rcases hq with rfl | rfl | rfl | rfl | rfl | rfl
  · exact p2
  · exact p2
  · exact p3
  · exact p7
  · exact p103
  · exact p991
) (by decide +kernel)).1
theorem Qit : IsP 2773320623:=(cert 2773320623 5 [2,2437,569003] (by
  intro q hq
  simp only [List.mem_cons,List.not_mem_nil,or_false] at hq
  rcases hq with rfl | rfl | rfl
  · exact p2
  · exact Qre
  · exact Qo9
) (by decide +kernel)).1
theorem Qh1 : IsP 72106336199:=(cert 72106336199 7 [2,13,2773320623] (by
  intro q hq
  simp only [List.mem_cons,List.not_mem_nil,or_false] at hq
  rcases hq with rfl | rfl | rfl
  · exact p2
  · exact p13
  · exact Qit
) (by decide +kernel)).1
theorem QeN : IsP 1919519569386763:=(cert 1919519569386763 2 [2,3,7,19,47,47,127,8574133] (by
  intro q hq
  simp only [List.mem_cons,List.not_mem_nil,or_false] at hq
  rcases hq with rfl | rfl | rfl | rfl | rfl | rfl | rfl | rfl
  · exact p2
  · exact p3
  · exact p7
  · exact p19
  · exact p47
  · exact p47
  · exact p127
  · exact Qms
) (by decide +kernel)).1
theorem Qco : IsP 75445702479781427272750846543864801:=(cert 75445702479781427272750846543864801 7 [2,2,2,2,2,3,3,5,5,75707,72106336199,1919519569386763] (by
  intro q hq
  simp only [List.mem_cons,List.not_mem_nil,or_false] at hq
  rcases hq with rfl | rfl | rfl | rfl | rfl | rfl | rfl | rfl | rfl | rfl | rfl | rfl
  · exact p2
  · exact p2
  · exact p2
  · exact p2
  · exact p2
  · exact p3
  · exact p3
  · exact p5
  · exact p5
  · exact Qqj
  · exact Qh1
  · exact QeN
) (by decide +kernel)).1
theorem Qe3 : IsP 31757755568855353:=(cert 31757755568855353 10 [2,2,2,3,31,107,223,4153,430751] (by
  intro q hq
  simp only [List.mem_cons,List.not_mem_nil,or_false] at hq
  rcases hq with rfl | rfl | rfl | rfl | rfl | rfl | rfl | rfl | rfl
  · exact p2
  · exact p2
  · exact p2
  · exact p3
  · exact p31
  · exact p107
  · exact p223
  · exact Qrd
  · exact QoA
) (by decide +kernel)).1
theorem Qba : IsP 74058212732561358302231226437062788676166966415465897661863160754340907:=(cert 74058212732561358302231226437062788676166966415465897661863160754340907 2 [2,3,353,57467,132049,1923133,31757755568855353,75445702479781427272750846543864801] (by
  intro q hq
  simp only [List.mem_cons,List.not_mem_nil,or_false] at hq
  rcases hq with rfl | rfl | rfl | rfl | rfl | rfl | rfl | rfl
  · exact p2
  · exact p3
  · exact p353
  · exact Qql
  · exact QoB
  · exact Qmt
  · exact Qe3
  · exact Qco
) (by decide +kernel)).1
theorem p25519 : IsP 57896044618658097711785492504343953926634992332820282019728792003956564819949∧(∀ a,a%57896044618658097711785492504343953926634992332820282019728792003956564819949≠0→a^(57896044618658097711785492504343953926634992332820282019728792003956564819949-1)%57896044618658097711785492504343953926634992332820282019728792003956564819949=1)∧∀ a,0<a→a<57896044618658097711785492504343953926634992332820282019728792003956564819949→∃ k,2^k%57896044618658097711785492504343953926634992332820282019728792003956564819949=a:=cert 57896044618658097711785492504343953926634992332820282019728792003956564819949 2 [2,2,3,65147,74058212732561358302231226437062788676166966415465897661863160754340907] (by
  intro q hq
  simp only [List.mem_cons,List.not_mem_nil,or_false] at hq
  rcases hq with rfl | rfl | rfl | rfl | rfl
  · exact p2
  · exact p2
  · exact p3
  · exact Qqk
  · exact Qba
) (by decide +kernel)
end Go.Proofs.YtdoadngmgmdlbaaDoor.Prime
end
end
section
section
namespace Go.Proofs.YtdoadngmgmdlbaaDoor.Field
open Go Go.RowKit
open Rely
def lnum (n : Int):Value:=.agg (ints .i64 (lims n))
def big : Int:=115792089237316195423570985008687907853269984665640564039457584007913129639936
theorem Ql9 : (65536:Int)^16=big:=by decide
theorem QbR (xs : List Int) (h:xs.length=16):(Tryd.prog.info? 58).map (·.size)=some (ints .i64 xs).size:=by
  rw [Qae,h]
  kernel_rfl
def Qc1 (x y:Int) (i:Nat):Int:=limb x i-limb y i
theorem Qiq (g h:Nat→Int):∀ k,pvf (fun i=>g i-h i) k=pvf g k-pvf h k
  | 0=>rfl
  | k+1=>by simp only [pvf]; rw [Qiq g h k,Int.sub_mul]; omega
theorem QfB (x y:Int) (hx:0≤x∧x<big) (hy:0≤y∧y<big):pvf (Qc1 x y) 16=x-y:=by
  have h:pvf (Qc1 x y) 16=pvf (limb x) 16-pvf (limb y) 16:=Qiq _ _ _
  rw [h,QcN,QcN,Ql9,Int.emod_eq_of_lt hx.1 hx.2,Int.emod_eq_of_lt hy.1 hy.2]
theorem QgN (x y:Int):∀ k,cr (Qc1 x y) k=0∨cr (Qc1 x y) k=-1
  | 0=>.inl (QeV _)
  | k+1=>by
    rw [←QeW]
    have:=QaV x k
    have:=QaV y k
    have h:=QgN x y k
    unfold Qc1 at *
    omega
theorem QjT (x y:Int) (k:Nat) (hk:k<16) (e:pvf (Qc1 x y) 16=x-y) :
    (limb x k-limb y k - -(cr (Qc1 x y) k)<0→limb x k-limb y k - -(cr (Qc1 x y) k)+65536=limb (x-y) k∧(1:Int)=-(cr (Qc1 x y) (k+1))) ∧
    (¬ limb x k-limb y k - -(cr (Qc1 x y) k)<0→limb x k-limb y k - -(cr (Qc1 x y) k)=limb (x-y) k∧(0:Int)=-(cr (Qc1 x y) (k+1))):=by
  have h1:=Qdp (Qc1 x y) k 16 hk
  have h2:=QeW (Qc1 x y) k
  have h3:=QaV x k
  have h4:=QaV y k
  have h5:=QgN x y k
  rw [e] at h1
  unfold Qc1 at *
  generalize limb (x-y) k=r at *
  generalize cr (fun i=>limb x i-limb y i) k=c at *
  omega
theorem minus (x y:Int) (hy:0≤y) (hxy:y≤x) (hx:x<big) (w:World):Calls Tryd.prog 84 #[lnum x,lnum y] w (Ret w (lnum (x-y))):=by
  have e:=QfB x y (by omega) (by omega)
  unfold lnum
  go_enter Tryd.func84,Tryd.ntmps84
  go_wp2_with fail
  go_loopw [5,6] (fun c i wr=>∃ k:Nat,k≤16∧i=.int .i64 k∧c=.int .i64 (-(cr (Qc1 x y) k))∧Ext w wr∧wr.heap[w.heap.size]? = some (.cells (ints .i64 (mix 16 (limb (x-y)) (limb x) k)) 58) ∧
      wr.heap[w.heap.size+1]? = some (.cells (ints .i64 (lims y)) 58)∧∃ b,b.size=16∧wr.heap[w.heap.size+1+1]? = some (.cells b 58)) (fun _ i _=>16-(intOf i).toNat)
  case atStart=>exact ⟨0,by omega,rfl,by rw [QeV]; rfl,ext3 _ _ _ _,by rw [mix_none]; exact QcC _ _ _ _,QbS _ _ _ _,_,rfl,Qbw _ _ _ _⟩
  case round =>
    obtain ⟨k,hk,rfl,rfl,he,hA,hB,b,hbs,hC⟩:=hrel
    by_cases hlt:k<16
    · have hX:(ints .i64 (mix 16 (limb (x-y)) (limb x) k))[k]? = some (.int .i64 (limb x k)):=by rw [Qas _ _ _ (by rw [mix_len]; exact hlt),mix_nth _ _ _ _ _ hlt,if_neg (by omega)]
      have hY:(ints .i64 (lims y))[k]? = some (.int .i64 (limb y k)):=by rw [Qas _ _ _ (by rw [QaM]; exact hlt),QcP _ _ hlt]
      have hS:(ints .i64 (mix 16 (limb (x-y)) (limb x) k)).setIfInBounds k (.int .i64 (limb (x-y) k))=ints .i64 (mix 16 (limb (x-y)) (limb x) (k+1)):=by rw [Qbz,mix_set _ _ _ _ hlt]
      have HR:=Lib.hid (QjT x y k hlt e)
      have h3:=QaV x k
      have h4:=QaV y k
      have h5:=QgN x y k
      generalize hc:cr (Qc1 x y) k=c at *
      generalize hc':cr (Qc1 x y) (k+1)=c' at *
      generalize hlx:limb x k=lx at *
      generalize hly:limb y k=ly at *
      have w1:IntKind.i64.wrap (lx-ly)=lx-ly:=IntWalk.i64_in _ (by omega)
      have w2:IntKind.i64.wrap (lx-ly - -c)=lx-ly - -c:=IntWalk.i64_in _ (by omega)
      have w3:lx-ly - -c<0→IntKind.i64.wrap (lx-ly - -c+65536)=lx-ly - -c+65536:=fun h=>IntWalk.i64_in _ (by omega)
      have HX:Hid (∀ W,Ext wr.drew W→W.cell? ⟨w.heap.size,k,none⟩=some (.int .i64 lx)):=Lib.hid fun W hR=>QaE (Qaa (Qaa hA (Qai _)) hR) hX
      have HY:Hid (∀ W,Ext wr.drew W→W.cell? ⟨w.heap.size+1,k,none⟩=some (.int .i64 ly)):=Lib.hid fun W hR=>QaE (Qaa (Qaa hB (Qai _)) hR) hY
      go_wp2
      refine Qa8 Ext 9 29 [⟨none,[(6,none)]⟩,⟨none,[(2,none),(12,some 0)]⟩,⟨none,[(13,some 1)]⟩,⟨none,[(6,none)]⟩,⟨none,[(3,none),(15,some 3)]⟩,⟨none,[(16,some 4)]⟩,⟨none,[(14,some 2),(17,some 5)]⟩,⟨none,[(5,none)]⟩,⟨none,[(18,some 6),(19,some 7)]⟩] kj kj rfl Ext.refl Ext.trans (fun F r0 hr hF=>?_)
      have f2:r0 2=.pointer (some ⟨w.heap.size,0,none⟩):=by rw [hr]; rfl
      have f3:r0 3=.pointer (some ⟨w.heap.size+1,0,none⟩):=by rw [hr]; rfl
      have f5:r0 5=.int .i64 (-c):=by rw [hr]; rfl
      have f6:r0 6=.int .i64 k:=by rw [hr]; rfl
      clear hr
      simp only [List.take_succ_cons,List.take_zero]
      repeat
        (try simp only [List.cons_append,List.nil_append]
         apply Qay
         (intro ρ W hR hh
          have hcx:=HX.out W hR
          have hcy:=HY.out W hR
          simp only [Qca,List.getD_cons_zero,List.getD_cons_succ,f2,f3,f5,f6] at hh
          simp only [guarded,QaU]
          go_simp
          first
            | exact ⟨Ext.refl _,rfl⟩
            | exact Ext.refl _))
      simp only [List.cons_append,List.nil_append]
      refine hF.out fun W hRW=>?_
      simp only [List.take_succ_cons,List.take_zero,List.drop_succ_cons,List.drop_zero,fin,forall_eq,Act.put,List.setIfInBounds_toArray,List.set_cons_zero,List.set_cons_succ]
      clear HX HY hF f2 f3 f5 f6
      have hE:=Ext.trans (Qai wr) hRW
      have hA':=Qaa hA hE
      have hB':=Qaa hB hE
      have hC':=Qaa hC hE
      have hcx:=QaE hA' hX
      have hfx:=Qbm hA' k
      go_wp2
      all_goals
        have hR:=HR.out
        clear HR
        refine ⟨⟨k+1,by omega,by go_num,?_,Qcl (Ext.trans he hE) (qR _) _ _,(Qck _ _ hA').trans ?_,(Qa6 _ _ (by omega)).trans hB',b,hbs,(Qa6 _ _ (by omega)).trans hC'⟩,by simp [intOf]; omega⟩
      · rw [hc',(hR.1 (by omega)).2]
      · rw [show lx-ly+c+65536=limb (x-y) k by have:=(hR.1 (by omega)).1; omega,hS]
      · rw [hc',(hR.2 (by omega)).2]
      · rw [show lx-ly+c=limb (x-y) k by have:=(hR.2 (by omega)).1; omega,hS]
    · obtain rfl:k=16:=by omega
      go_wp2_with first
        | (with_reducible show wpList _ _ _ ((⟨_,.load 58 _,_,_,_,_⟩:Oper)::_) _ _
           refine wpList_load_row rfl 58 _ rfl w.heap.size rfl 58 _ (0,0) _ hA Tryd.underlying58 rfl (QbR _ (mix_len _ _ _ _)) ?_)
        | (with_reducible show wpList _ _ _ ((⟨_,.store 58 _ _,_,_,_,_⟩:Oper)::_) _ _
           refine wpList_store_row rfl 58 _ _ rfl (w.heap.size+1+1) _ rfl rfl 58 _ hC (QbR _ (mix_len _ _ _ _)) (by rw [hbs,Qae,mix_len]) (ints_one _ _) ?_)
      exact bodyPost_ret (results_cell_row (p:=4) rfl _ _ (w.heap.size+1+1) 58 _ (0,0) _ rfl (setRow_heap _ _ _ _ _ _ hC) Tryd.underlying58 rfl (QbR _ (mix_len _ _ _ _))) rfl ⟨by rw [mix_full _ _ _ _ (qR _)]; rfl,QaO he (by omega) _⟩
end Go.Proofs.YtdoadngmgmdlbaaDoor.Field
end
section
namespace Go.Proofs.YtdoadngmgmdlbaaDoor.Field
open Go Go.RowKit
open Rely
theorem prime (w : World):Calls Tryd.prog 85 #[] w (Ret w (lnum p)):=by
  have e0:lims p=[65517,65535,65535,65535,65535,65535,65535,65535,65535,65535,65535,65535,65535,65535,65535,32767]:=by decide +kernel
  have e:ints .i64 (lims p)=#[.int .i64 65517,.int .i64 65535,.int .i64 65535,.int .i64 65535,.int .i64 65535,.int .i64 65535,.int .i64 65535,.int .i64 65535,.int .i64 65535,.int .i64 65535,.int .i64 65535,.int .i64 65535,.int .i64 65535,.int .i64 65535,.int .i64 65535,.int .i64 32767]:=by
    rw [e0]; rfl
  have hi:=QbR (lims p) (QaM p)
  unfold lnum
  rw [e]
  rw [e] at hi
  clear e e0
  go_enter Tryd.func85,Tryd.ntmps85
  go_wp2_with fail
  exact bodyPost_ret (results_cell_row (p:=0) rfl _ _ w.heap.size 58 _ (0,0) _ rfl (heap_alloc_new _ _) Tryd.underlying58 rfl hi) rfl ⟨rfl,QaJ _ _⟩
theorem Qe1 (g : Nat→Int) (k:Nat):∀ n,k≤n→(∀ j,k≤j→j<n→g j=0)→pvf g n=pvf g k
  | 0,h,_=>by
      obtain rfl:k=0:=by omega
      rfl
  | n+1,h,hz=>by
    rcases Nat.lt_or_ge n k with h1 | h1
    · obtain rfl:k=n+1:=by omega
      rfl
    · rw [pvf,hz n h1 (by omega),Qe1 g k n h1 fun j a b=>hz j a (by omega)]
      simp
theorem QkY (x y:Int) (k:Nat):-(65536^k)<pvf (Qc1 x y) k∧pvf (Qc1 x y) k<65536^k:=by
  have h:pvf (Qc1 x y) k=pvf (limb x) k-pvf (limb y) k:=Qiq _ _ _
  have hp:=QfV k
  have h1:=Int.emod_nonneg x (Int.ne_of_gt hp)
  have h2:=Int.emod_lt_of_pos x hp
  have h3:=Int.emod_nonneg y (Int.ne_of_gt hp)
  have h4:=Int.emod_lt_of_pos y hp
  rw [h,QcN,QcN]
  omega
theorem Qii (x y:Int) (hx:0≤x∧x<big) (hy:0≤y∧y<big) (k:Nat) (hk:k<16) (hi:∀ j,k+1≤j→j<16→limb x j=limb y j) (hd:limb x k≠limb y k) :
    decide (limb x k>limb y k)=decide (y≤x):=by
  have e:=QfB x y hx hy
  rw [Qe1 (Qc1 x y) (k+1) 16 (by omega) fun j a b=>by unfold Qc1; rw [hi j a b]; omega,pvf] at e
  have hl:=QkY x y k
  have hp:=QfV k
  refine decide_eq_decide.2 ⟨fun h=>?_,fun h=>?_⟩
  · have h1:1*65536^k≤Qc1 x y k*65536^k:=Int.mul_le_mul_of_nonneg_right (by unfold Qc1; omega) (Int.le_of_lt hp)
    omega
  · rcases (by omega:limb x k>limb y k∨limb x k<limb y k) with h0 | h0
    · exact h0
    · have h1:Qc1 x y k*65536^k≤-1*65536^k:=Int.mul_le_mul_of_nonneg_right (by unfold Qc1; omega) (Int.le_of_lt hp)
      omega
theorem QlX (x y:Int) (hx:0≤x∧x<big) (hy:0≤y∧y<big) (hi:∀ j,0≤j→j<16→limb x j=limb y j):x=y:=by
  have e:=QfB x y hx hy
  rw [Qe1 (Qc1 x y) 0 16 (by omega) fun j a b=>by unfold Qc1; rw [hi j (by omega) b]; omega,pvf] at e
  omega
theorem QiB (x y:Int) (hx:0≤x∧x<big) (hy:0≤y∧y<big) (w:World):Calls Tryd.prog 98 #[lnum x,lnum y] w (Ret w (.bool (decide (y≤x)))):=by
  unfold lnum
  go_enter Tryd.func98,Tryd.ntmps98
  go_wp2_with fail
  go_loopw [5] (fun i wr=>∃ k:Nat,k≤16∧i=.int .i64 ((k:Int)-1)∧(∀ j,k≤j→j<16→limb x j=limb y j)∧Ext w wr∧wr.heap[w.heap.size]? = some (.cells (ints .i64 (lims x)) 58) ∧
      wr.heap[w.heap.size+1]? = some (.cells (ints .i64 (lims y)) 58)) (fun i _=>(intOf i+1).toNat)
  case atStart=>exact ⟨16,by omega,rfl,fun j h1 h2=>by omega,Ext.trans (QaJ _ _) (QaJ _ _),by rw [Below.heap_alloc _ _ _ (by simp)]; exact heap_alloc_new _ _,by have:=heap_alloc_new (w.alloc (.cells (ints .i64 (lims x)) 58)) (.cells (ints .i64 (lims y)) 58); simpa using this⟩
  case round =>
    obtain ⟨k,hk,rfl,hi,he,hA,hB⟩:=hrel
    rcases k with _ | j
    · have e:=QlX x y hx hy hi
      go_wp2
      exact bodyPost_ret (results_tmp rfl _ _ _) rfl ⟨by rw [e]; simp,he⟩
    · have hlt:j<16:=by omega
      have q0:(0:Int)≤(j:Int):=by omega
      have q1:(j:Int)<16:=by omega
      have hX:(ints .i64 (lims x))[j]? = some (.int .i64 (limb x j)):=by rw [Qas _ _ _ (by rw [QaM]; exact hlt),QcP _ _ hlt]
      have hY:(ints .i64 (lims y))[j]? = some (.int .i64 (limb y j)):=by rw [Qas _ _ _ (by rw [QaM]; exact hlt),QcP _ _ hlt]
      rw [show ((j+1:Nat):Int)-1=(j:Int) by omega]
      have HT:=Lib.hid (Qii x y hx hy j hlt hi)
      have HI:=Lib.hid hi
      clear hi
      generalize hlx:limb x j=lx at *
      generalize hly:limb y j=ly at *
      have HX:Hid (∀ W,Ext wr.drew W→W.cell? ⟨w.heap.size,j,none⟩=some (.int .i64 lx)):=Lib.hid fun W hR=>QaE (Qaa (Qaa hA (Qai _)) hR) hX
      have HY:Hid (∀ W,Ext wr.drew W→W.cell? ⟨w.heap.size+1,j,none⟩=some (.int .i64 ly)):=Lib.hid fun W hR=>QaE (Qaa (Qaa hB (Qai _)) hR) hY
      go_wp2
      refine Qa8 Ext 6 24 [⟨none,[(5,none)]⟩,⟨none,[(2,none),(10,some 0)]⟩,⟨none,[(11,some 1)]⟩,⟨none,[(5,none)]⟩,⟨none,[(3,none),(13,some 3)]⟩,⟨none,[(14,some 4)]⟩] kj kj rfl Ext.refl Ext.trans (fun F r0 hr hF=>?_)
      have f2:r0 2=.pointer (some ⟨w.heap.size,0,none⟩):=by rw [hr]; rfl
      have f3:r0 3=.pointer (some ⟨w.heap.size+1,0,none⟩):=by rw [hr]; rfl
      have f5:r0 5=.int .i64 j:=by rw [hr]; rfl
      clear hr
      simp only [List.take_succ_cons,List.take_zero]
      repeat
        (try simp only [List.cons_append,List.nil_append]
         apply Qay
         (intro ρ W hR hh
          have hcx:=HX.out W hR
          have hcy:=HY.out W hR
          simp only [Qca,List.getD_cons_zero,List.getD_cons_succ,f2,f3,f5] at hh
          simp only [guarded,QaU]
          go_simp
          first
            | exact ⟨Ext.refl _,rfl⟩
            | exact Ext.refl _))
      simp only [List.cons_append,List.nil_append]
      refine hF.out fun W hRW=>?_
      simp only [List.take_succ_cons,List.take_zero,List.drop_succ_cons,List.drop_zero,fin,forall_eq,Act.put,List.setIfInBounds_toArray,List.set_cons_zero,List.set_cons_succ]
      clear HX HY hF f2 f3 f5
      have hE:=Ext.trans (Qai wr) hRW
      have hA':=Qaa hA hE
      have hB':=Qaa hB hE
      have HX:Hid (∀ V,Ext W.drew V→V.cell? ⟨w.heap.size,j,none⟩=some (.int .i64 lx)):=Lib.hid fun V hR=>QaE (Qaa (Qaa hA' (Qai _)) hR) hX
      have HY:Hid (∀ V,Ext W.drew V→V.cell? ⟨w.heap.size+1,j,none⟩=some (.int .i64 ly)):=Lib.hid fun V hR=>QaE (Qaa (Qaa hB' (Qai _)) hR) hY
      go_wp2
      · have hne:lx≠ly:=by
          have h:(lx != ly)=true:=by assumption
          simpa using h
        refine Qa8 Ext 7 24 [⟨none,[(5,none)]⟩,⟨none,[(2,none),(17,some 0)]⟩,⟨none,[(18,some 1)]⟩,⟨none,[(5,none)]⟩,⟨none,[(3,none),(20,some 3)]⟩,⟨none,[(21,some 4)]⟩,⟨none,[(19,some 2),(22,some 5)]⟩] kj kj rfl Ext.refl Ext.trans (fun F r0 hr hF=>?_)
        have f2:r0 2=.pointer (some ⟨w.heap.size,0,none⟩):=by rw [hr]; rfl
        have f3:r0 3=.pointer (some ⟨w.heap.size+1,0,none⟩):=by rw [hr]; rfl
        have f5:r0 5=.int .i64 j:=by rw [hr]; rfl
        clear hr
        simp only [List.take_succ_cons,List.take_zero]
        repeat
          (try simp only [List.cons_append,List.nil_append]
           apply Qay
           (intro ρ V hR hh
            have hcx:=HX.out V hR
            have hcy:=HY.out V hR
            simp only [Qca,List.getD_cons_zero,List.getD_cons_succ,f2,f3,f5] at hh
            simp only [guarded,QaU]
            go_simp
            first
              | exact ⟨Ext.refl _,rfl⟩
              | exact Ext.refl _))
        simp only [List.cons_append,List.nil_append]
        refine hF.out fun V hRV=>?_
        simp only [List.take_succ_cons,List.take_zero,List.drop_succ_cons,List.drop_zero,fin,forall_eq,Act.put,List.setIfInBounds_toArray,List.set_cons_zero,List.set_cons_succ]
        go_wp2
        exact bodyPost_ret (results_tmp rfl _ _ _) rfl ⟨by rw [←HT.out hne]; rfl,Ext.trans (Ext.trans (Ext.trans he hE) (Qai _)) hRV⟩
      · have heq:lx=ly:=by
          first
            | (have h:(lx != ly)=false:=by assumption
               simpa using h)
            | (have h:¬ ((lx != ly)=true):=by assumption
               simpa using h)
        refine ⟨⟨j,by omega,rfl,fun i h1 h2=>?_,Ext.trans he hE,hA',hB'⟩,by simp [intOf]⟩
        rcases (by omega:i=j∨j+1≤i) with rfl | h
        · rw [hlx,hly]; exact heq
        · exact HI.out i h h2
end Go.Proofs.YtdoadngmgmdlbaaDoor.Field
end
section
namespace Go.Proofs.YtdoadngmgmdlbaaDoor.Field
open Go Go.RowKit
open Rely
def it : Nat→Int→Int
  | 0,n=>n
  | r+1,n=>QbF (it r n)
theorem QmO (n : Int) (h:0≤n∧n<65536^32) (r:Nat) (hr:r<4):0≤it r n∧it r n<65536^32:=by
  have f:=four n h
  rcases (by omega:r=0∨r=1∨r=2∨r=3) with rfl | rfl | rfl | rfl
  · exact h
  · exact ⟨f.1,f.2.1⟩
  · exact ⟨f.2.2.1,f.2.2.2.1⟩
  · exact ⟨f.2.2.2.2.1,f.2.2.2.2.2.1⟩
theorem Qpc (n : Int) (h:0≤n∧n<65536^32):0≤it 4 n∧it 4 n<65536^16∧it 4 n%57896044618658097711785492504343953926634992332820282019728792003956564819949=n%57896044618658097711785492504343953926634992332820282019728792003956564819949:=by
  have f:=four n h
  exact ⟨f.2.2.2.2.2.2.1,f.2.2.2.2.2.2.2.1,f.2.2.2.2.2.2.2.2⟩
def fmix (S : Int) (k:Nat):List Int:=(List.range 32).map fun i=>if i<k then Qc5 S i else if 16≤i∧i<16+k then 0 else limb S i
theorem Qjn (S : Int) (k:Nat):(fmix S k).length=32:=by simp [fmix]
theorem Qjm (S : Int) (k i:Nat) (hi:i<32):nth (fmix S k) i=if i<k then Qc5 S i else if 16≤i∧i<16+k then 0 else limb S i:=by simp [nth,fmix,hi]
theorem Qlj (S : Int):fmix S 0=(List.range 32).map (limb S):=by
  unfold fmix
  refine List.map_congr_left fun i hi=>?_
  rw [if_neg (by omega),if_neg (by omega)]
theorem Qlk (S : Int):fmix S 16=(List.range 32).map (Qc5 S):=by
  unfold fmix
  refine List.map_congr_left fun i hi=>?_
  have:=List.mem_range.1 hi
  by_cases h:i<16
  · rw [if_pos h]
  · rw [if_neg h,if_pos (by omega)]
    unfold Qc5
    rw [if_neg h]
theorem QmX (S : Int) (k:Nat) (hk:k<16):((fmix S k).set k (limb S k+38*limb S (k+16))).set (k+16) 0=fmix S (k+1):=by
  apply List.ext_getElem
  · simp [fmix]
  · intro i h1 h2
    simp only [fmix,List.getElem_set,List.getElem_map,List.getElem_range]
    rcases (by omega:i=k+16∨i=k∨i<k∨(k<i∧i<16)∨(16≤i∧i<16+k)∨16+k<i) with h | h | h | h | h | h
    · subst h
      rw [if_pos rfl,if_neg (show ¬ k+16<k+1 by omega),if_pos (show 16≤k+16∧k+16<16+(k+1) by omega)]
    · subst h
      rw [if_neg (show ¬ i+16=i by omega),if_pos rfl,if_pos (show i<i+1 by omega)]
      unfold Qc5
      rw [if_pos hk]
    · rw [if_neg (show ¬ k+16=i by omega),if_neg (show ¬ k=i by omega),if_pos h,if_pos (show i<k+1 by omega)]
    · rw [if_neg (show ¬ k+16=i by omega),if_neg (show ¬ k=i by omega),if_neg (show ¬ i<k by omega),if_neg (show ¬ i<k+1 by omega),if_neg (show ¬ (16≤i∧i<16+k) by omega),if_neg (show ¬ (16≤i∧i<16+(k+1)) by omega)]
    · rw [if_neg (show ¬ k+16=i by omega),if_neg (show ¬ k=i by omega),if_neg (show ¬ i<k by omega),if_neg (show ¬ i<k+1 by omega),if_pos (show (16≤i∧i<16+k) by omega),if_pos (show (16≤i∧i<16+(k+1)) by omega)]
    · rw [if_neg (show ¬ k+16=i by omega),if_neg (show ¬ k=i by omega),if_neg (show ¬ i<k by omega),if_neg (show ¬ i<k+1 by omega),if_neg (show ¬ (16≤i∧i<16+k) by omega),if_neg (show ¬ (16≤i∧i<16+(k+1)) by omega)]
def out5 (S : Int) (i:Nat):Int:=if i=15 then limb S 15%32768 else limb S i
def g5 (S : Int) (i:Nat):Int:=out5 S i+(if i=0 then 19*(limb S 15/32768) else 0)
def S5 (S : Int):Int:=S%57896044618658097711785492504343953926634992332820282019728792003956564819968+19*(S/57896044618658097711785492504343953926634992332820282019728792003956564819968)
theorem Qhu (c : Int):∀ k,pvf (fun i=>if i=0 then c else 0) (k+1)=c
  | 0=>by simp [pvf]
  | k+1=>by
    rw [pvf,Qhu c k]
    simp
theorem QqA (S : Int) (h:0≤S∧S<65536^16):pvf (g5 S) 16=S5 S:=by
  have e1:pvf (g5 S) 16=pvf (out5 S) 16+pvf (fun i=>if i=0 then 19*(limb S 15/32768) else 0) 16:=QgB _ _ _
  have e2:pvf (fun i=>if i=0 then 19*(limb S 15/32768) else 0) 16=19*(limb S 15/32768):=Qhu _ 15
  have e3:pvf (out5 S) 15=pvf (limb S) 15:=QcG (n:=15) (fun i hi=>by unfold out5; rw [if_neg (by omega)]) 15 (qR _)
  have e4:pvf (out5 S) 16=pvf (out5 S) 15+out5 S 15*65536^15:=rfl
  rw [e1,e2,e4,e3,QcN]
  unfold out5 S5 limb
  rw [if_pos rfl]
  have f1:(65536:Int)^15=1766847064778384329583297500742918515827483896875618958121606201292619776:=by decide
  have f2:(65536:Int)^16=115792089237316195423570985008687907853269984665640564039457584007913129639936:=by decide
  rw [f1]
  rw [f2] at h
  omega
theorem QjN (S : Int) (i:Nat):0≤out5 S i∧out5 S i<65536:=by
  unfold out5
  have h1:=QaV S i
  have h2:=QaV S 15
  split <;> omega
theorem QqK (S : Int) (h:0≤S∧S<65536^16):0≤S5 S∧S5 S<57896044618658097711785492504343953926634992332820282019728792003956564820006 ∧
    S5 S%57896044618658097711785492504343953926634992332820282019728792003956564819949=S%57896044618658097711785492504343953926634992332820282019728792003956564819949:=by
  have f2:(65536:Int)^16=115792089237316195423570985008687907853269984665640564039457584007913129639936:=by decide
  rw [f2] at h
  unfold S5
  omega
theorem QmL (V : Int) (h0:0≤V) (h:V<57896044618658097711785492504343953926634992332820282019728792003956564820006) :
    (57896044618658097711785492504343953926634992332820282019728792003956564819949≤V→V-57896044618658097711785492504343953926634992332820282019728792003956564819949=V%57896044618658097711785492504343953926634992332820282019728792003956564819949) ∧
    (¬ 57896044618658097711785492504343953926634992332820282019728792003956564819949≤V→V=V%57896044618658097711785492504343953926634992332820282019728792003956564819949):=by omega
theorem Qle (xs : List Int) (h:xs.length=32):(Tryd.prog.info? 116).map (·.size)=some (ints .i64 xs).size:=by
  rw [Qae,h]
  kernel_rfl
def M : Int:=1125899906842624
theorem small (xs : List Int) (hl:xs.length=32) (hr:∀ i,i<32→0≤nth xs i∧nth xs i≤M) (h0:0≤pvf (nth xs) 32∧pvf (nth xs) 32<65536^32) (w:World) :
    Calls Tryd.prog 86 #[.agg (ints .i64 xs)] w (Ret w (lnum (pvf (nth xs) 32%p))):=by
  generalize hn:pvf (nth xs) 32=n at *
  have hit:=QmO n h0
  have hfour:=Qpc n h0
  go_enter Tryd.func86,Tryd.ntmps86
  go_wp2_with fail
  go_loopw [4] (fun i wr=>∃ r:Nat,r≤4∧i=.int .i64 r∧Ext w wr∧∃ g:Nat→Int,(∀ i,i<32→0≤g i∧g i≤M)∧pvf g 32=it r n∧(1≤r→∀ i,16≤i→g i=0) ∧
      wr.heap[w.heap.size]? = some (.cells (ints .i64 ((List.range 32).map g)) 116)∧(∃ b,b.size=16∧wr.heap[w.heap.size+1]? = some (.cells b 58)) ∧
      wr.heap[w.heap.size+1+1]? = some (.cells (ints .i64 (List.replicate 16 0)) 58)) (fun i _=>4-(intOf i).toNat)
  case atStart=>exact ⟨0,by omega,rfl,ext3 _ _ _ _,nth xs,hr,hn,fun h=>by omega,by rw [Qhq _ _ hl]; exact QcC _ _ _ _,⟨_,rfl,QbS _ _ _ _⟩,Qbw _ _ _ _⟩
  case round =>
    obtain ⟨r,hr4,rfl,he,g,hg,hgv,hgz,hA,⟨b,hbs,hB⟩,hC⟩:=hrel
    by_cases hlt:r<4
    · clear hgz hfour hr hn hl h0
      have hS:=hit r hlt
      go_wp2
      go_loopw [5,6] (fun c i wq=>∃ k:Nat,k≤32∧i=.int .i64 k∧c=.int .i64 (cr g k)∧Ext w wq∧wq.heap[w.heap.size]? = some (.cells (ints .i64 (mix 32 (limb (it r n)) g k)) 116)∧wq.heap[w.heap.size+1]? = some (.cells b 58) ∧
        wq.heap[w.heap.size+1+1]? = some (.cells (ints .i64 (List.replicate 16 0)) 58)) (fun _ i _=>32-(intOf i).toNat)
      case atStart=>exact ⟨0,by omega,rfl,by rw [QeV],he,by rw [mix_none]; exact hA,hB,hC⟩
      case round =>
        clear hA hB hC he
        obtain ⟨k,hk,rfl,rfl,he,hA,hB,hC⟩:=hrel
        by_cases hk32:k<32
        · have hX:(ints .i64 (mix 32 (limb (it r n)) g k))[k]? = some (.int .i64 (g k)):=by rw [Qas _ _ _ (by rw [mix_len]; exact hk32),mix_nth _ _ _ _ _ hk32,if_neg (by omega)]
          have hS1:(ints .i64 (mix 32 (limb (it r n)) g k)).setIfInBounds k (.int .i64 (limb (it r n) k))=ints .i64 (mix 32 (limb (it r n)) g (k+1)):=by rw [Qbz,mix_set _ _ _ _ hk32]
          have e1:=Qdp g k 32 hk32
          have e2:=QeW g k
          have b1:=hg k hk32
          have b2:=QgX g M 32 (by decide) hg k (by omega)
          rw [hgv] at e1
          unfold M at b1 b2
          generalize hcn:cr g (k+1)=cn at *
          generalize hcc:cr g k=cc at *
          generalize hgg:g k=gk at *
          have hcx:=QaE hA hX
          have hfx:=Qbm hA k
          have w1:IntKind.i64.wrap (gk+cc)=gk+cc:=IntWalk.i64_in _ (by omega)
          have w2:(gk+cc).tmod 65536=(gk+cc)%65536:=Int.tmod_eq_emod_of_nonneg (by omega)
          have w3:IntKind.i64.wrap ((gk+cc)%65536)=(gk+cc)%65536:=IntWalk.i64_in _ (by omega)
          have w4:(gk+cc).tdiv 65536=(gk+cc)/65536:=Int.tdiv_eq_ediv_of_nonneg (by omega)
          have w5:IntKind.i64.wrap ((gk+cc)/65536)=(gk+cc)/65536:=IntWalk.i64_in _ (by omega)
          have HG:=Lib.hid hg
          clear hg
          go_wp2
          exact ⟨⟨k+1,by omega,by go_num,by rw [hcn],Qcl he (qR _) _ _,(Qck _ _ hA).trans (by rw [hS1]),(Qa6 _ _ (by omega)).trans hB,(Qa6 _ _ (by omega)).trans hC⟩,by simp [intOf]; omega⟩
        · obtain rfl:k=32:=by omega
          rw [mix_full _ _ _ _ (qR _),←Qlj] at hA
          have HS:=Lib.hid hS
          have HG:=Lib.hid hgv
          clear hS hgv hg hit
          go_wp2
          go_loopw [8] (fun i wq=>∃ k:Nat,k≤16∧i=.int .i64 k∧Ext w wq∧wq.heap[w.heap.size]? = some (.cells (ints .i64 (fmix (it r n) k)) 116)∧wq.heap[w.heap.size+1]? = some (.cells b 58) ∧
            wq.heap[w.heap.size+1+1]? = some (.cells (ints .i64 (List.replicate 16 0)) 58)) (fun i _=>16-(intOf i).toNat)
          case atStart=>exact ⟨0,by omega,rfl,he,hA,hB,hC⟩
          case round =>
            clear hA hB hC he
            obtain ⟨k,hk,rfl,he,hA,hB,hC⟩:=hrel
            by_cases hk16:k<16
            · have hX:(ints .i64 (fmix (it r n) k))[k]? = some (.int .i64 (limb (it r n) k)):=by rw [Qas _ _ _ (by rw [Qjn]; omega),Qjm _ _ _ (by omega),if_neg (by omega),if_neg (by omega)]
              have hY:(ints .i64 (fmix (it r n) k))[k+16]? = some (.int .i64 (limb (it r n) (k+16))):=by rw [Qas _ _ _ (by rw [Qjn]; omega),Qjm _ _ _ (by omega),if_neg (by omega),if_neg (by omega)]
              have hS1:((ints .i64 (fmix (it r n) k)).setIfInBounds k (.int .i64 (limb (it r n) k+38*limb (it r n) (k+16)))).setIfInBounds (k+16) (.int .i64 0)=ints .i64 (fmix (it r n) (k+1)):=by rw [Qbz,Qbz,QmX _ _ hk16]
              have b1:=QaV (it r n) k
              have b2:=QaV (it r n) (k+16)
              generalize hlx:limb (it r n) k=lx at *
              generalize hly:limb (it r n) (k+16)=ly at *
              have q1:IntKind.i64.wrap ((k:Int)+16)=(k:Int)+16:=IntWalk.i64_in _ (by omega)
              have q2:((k:Int)+16).toNat=k+16:=by omega
              have q3:(0:Int)≤(k:Int)+16:=by omega
              have q4:(k:Int)+16<32:=by omega
              have q5:(k:Int)<32:=by omega
              have w1:IntKind.i64.wrap (38*ly)=38*ly:=IntWalk.i64_in _ (by omega)
              have w2:IntKind.i64.wrap (lx+38*ly)=lx+38*ly:=IntWalk.i64_in _ (by omega)
              have HX:Hid (∀ W,Ext wr.drew W→W.cell? ⟨w.heap.size,k,none⟩=some (.int .i64 lx)):=Lib.hid fun W hR=>QaE (Qaa (Qaa hA (Qai _)) hR) hX
              have HY:Hid (∀ W,Ext wr.drew W→W.cell? ⟨w.heap.size,k+16,none⟩=some (.int .i64 ly)):=Lib.hid fun W hR=>QaE (Qaa (Qaa hA (Qai _)) hR) hY
              go_wp2
              refine Qa8 Ext 11 103 [⟨none,[(8,none)]⟩,⟨none,[(8,none)]⟩,⟨none,[(1,none),(39,some 1)]⟩,⟨none,[(40,some 2)]⟩,⟨none,[(8,none)]⟩,⟨none,[(42,some 4)]⟩,⟨none,[(1,none),(43,some 5)]⟩,⟨none,[(44,some 6)]⟩,⟨none,[(45,some 7)]⟩,⟨none,[(41,some 3),(46,some 8)]⟩,⟨none,[(1,none),(38,some 0)]⟩] kj kj rfl Ext.refl Ext.trans (fun F r0 hr hF=>?_)
              have f1:r0 1=.pointer (some ⟨w.heap.size,0,none⟩):=by rw [hr]; rfl
              have f8:r0 8=.int .i64 k:=by rw [hr]; rfl
              clear hr
              simp only [List.take_succ_cons,List.take_zero]
              repeat
                (try simp only [List.cons_append,List.nil_append]
                 apply Qay
                 (intro ρ W hR hh
                  have hcx:=HX.out W hR
                  have hcy:=HY.out W hR
                  simp only [Qca,List.getD_cons_zero,List.getD_cons_succ,f1,f8] at hh
                  simp only [guarded,QaU]
                  go_simp
                  first
                    | exact ⟨Ext.refl _,rfl⟩
                    | exact Ext.refl _))
              simp only [List.cons_append,List.nil_append]
              refine hF.out fun W hRW=>?_
              simp only [List.take_succ_cons,List.take_zero,List.drop_succ_cons,List.drop_zero,fin,forall_eq,Act.put,List.setIfInBounds_toArray,List.set_cons_zero,List.set_cons_succ]
              clear HX HY hF f1 f8
              have hE:=Ext.trans (Qai wr) hRW
              have hA':=Qaa hA hE
              have hB':=Qaa hB hE
              have hC':=Qaa hC hE
              have hcx:=QaE hA' hX
              have hfx:=Qbm hA' k
              have hA2:=Qck k (.int .i64 (lx+38*ly)) hA'
              have hcy:(W.setCell ⟨w.heap.size,k,none⟩ (.int .i64 (lx+38*ly))).cell? ⟨w.heap.size,k+16,none⟩=some (.int .i64 ly):=QaE hA2 (by rw [Array.getElem?_setIfInBounds_ne (by omega)]; exact hY)
              have hfy:=Qbm hA2 (k+16)
              go_wp2
              exact ⟨⟨k+1,by omega,by go_num,Qcl (Qcl (Ext.trans he hE) (qR _) _ _) (qR _) _ _,(Qck _ _ hA2).trans (by rw [hS1]),(Qa6 _ _ (by omega)).trans ((Qa6 _ _ (by omega)).trans hB'),(Qa6 _ _ (by omega)).trans ((Qa6 _ _ (by omega)).trans hC')⟩,by simp [intOf]; omega⟩
            · obtain rfl:k=16:=by omega
              rw [Qlk] at hA
              have hS:=HS.out
              have hgv:=HG.out
              clear HS HG
              go_wp2
              refine ⟨⟨r+1,by omega,by go_num,he,Qc5 (it r n),fun i _=>?_,QmW _ hS,fun _ i hi=>?_,hA,⟨b,hbs,hB⟩,hC⟩,by simp [intOf]; omega⟩
              · have:=QhL (it r n) i
                unfold M
                omega
              · unfold Qc5
                rw [if_neg (by omega)]
    · obtain rfl:r=4:=by omega
      have hz:=hgz (by decide)
      have hgv:pvf g 16=it 4 n:=by rw [←hgv,Qe1 g 16 32 (by decide) fun j a _=>hz j a]
      clear hgz hr hn hl h0 hit
      obtain ⟨hN0,hN1,hN2⟩:=hfour
      generalize hN:it 4 n=N at *
      have HN:=Lib.hid (And.intro hN0 (And.intro hN1 hN2))
      clear hN0 hN1 hN2 hN
      rw [show List.replicate 16 (0:Int)=mix 16 (limb N) (fun _=>0) 0 by rw [mix_none]; rfl] at hC
      go_wp2
      go_loopw [9,10] (fun c i wq=>∃ k:Nat,k≤16∧i=.int .i64 k∧c=.int .i64 (cr g k)∧Ext w wq∧wq.heap[w.heap.size]? = some (.cells (ints .i64 ((List.range 32).map g)) 116)∧wq.heap[w.heap.size+1]? = some (.cells b 58) ∧
        wq.heap[w.heap.size+1+1]? = some (.cells (ints .i64 (mix 16 (limb N) (fun _=>0) k)) 58)) (fun _ i _=>16-(intOf i).toNat)
      case atStart=>exact ⟨0,by omega,rfl,by rw [QeV],he,hA,hB,hC⟩
      case round =>
        clear hA hB hC he
        obtain ⟨k,hk,rfl,rfl,he,hA,hB,hC⟩:=hrel
        by_cases hk16:k<16
        · have hX:(ints .i64 ((List.range 32).map g))[k]? = some (.int .i64 (g k)):=by rw [Qas _ _ _ (by simp; omega)]; simp [nth,show k<32 by omega]
          have hY:(ints .i64 (mix 16 (limb N) (fun _=>0) k))[k]? = some (.int .i64 0):=by rw [Qas _ _ _ (by rw [mix_len]; exact hk16),mix_nth _ _ _ _ _ hk16,if_neg (by omega)]
          have hS1:(ints .i64 (mix 16 (limb N) (fun _=>0) k)).setIfInBounds k (.int .i64 (limb N k))=ints .i64 (mix 16 (limb N) (fun _=>0) (k+1)):=by rw [Qbz,mix_set _ _ _ _ hk16]
          have e1:=Qdp g k 16 hk16
          have e2:=QeW g k
          have b1:=hg k (by omega)
          have b2:=QgX g M 32 (by decide) hg k (by omega)
          rw [hgv] at e1
          unfold M at b1 b2
          generalize hcn:cr g (k+1)=cn at *
          generalize hcc:cr g k=cc at *
          generalize hgg:g k=gk at *
          have q5:(k:Int)<32:=by omega
          have hcx:=QaE hA hX
          have hcy:=QaE hC hY
          have hfx:=Qbm hC k
          have w1:IntKind.i64.wrap (gk+cc)=gk+cc:=IntWalk.i64_in _ (by omega)
          have w2:(gk+cc).tmod 65536=(gk+cc)%65536:=Int.tmod_eq_emod_of_nonneg (by omega)
          have w3:IntKind.i64.wrap ((gk+cc)%65536)=(gk+cc)%65536:=IntWalk.i64_in _ (by omega)
          have w4:(gk+cc).tdiv 65536=(gk+cc)/65536:=Int.tdiv_eq_ediv_of_nonneg (by omega)
          have w5:IntKind.i64.wrap ((gk+cc)/65536)=(gk+cc)/65536:=IntWalk.i64_in _ (by omega)
          have HG:=Lib.hid hg
          clear hg hz
          go_wp2
          exact ⟨⟨k+1,by omega,by go_num,by rw [hcn],Qcl he (by omega) _ _,(Qa6 _ _ (by omega)).trans hA,(Qa6 _ _ (by omega)).trans hB,(Qck _ _ hC).trans (by rw [hS1])⟩,by simp [intOf]; omega⟩
        · obtain rfl:k=16:=by omega
          clear hg hz hgv hA
          have hX:(ints .i64 (mix 16 (limb N) (fun _=>0) 16))[15]? = some (.int .i64 (limb N 15)):=by rw [Qas _ _ _ (by rw [mix_len]; decide),mix_nth _ _ _ _ _ (by decide),if_pos (by decide)]
          have hY:(ints .i64 (mix 16 (limb N) (fun _=>0) 16))[0]? = some (.int .i64 (limb N 0)):=by rw [Qas _ _ _ (by rw [mix_len]; decide),mix_nth _ _ _ _ _ (by decide),if_pos (by decide)]
          have hS1:(ints .i64 (mix 16 (limb N) (fun _=>0) 16)).setIfInBounds 15 (.int .i64 (limb N 15%32768))=ints .i64 (mix 16 (limb (S5 N)) (out5 N) 0):=by
            rw [Qbz]
            refine congrArg (ints .i64) (List.ext_getElem (by simp [mix]) fun i h1 h2=>?_)
            have h3:i<16:=by simpa [mix] using h2
            simp only [mix,List.getElem_set,List.getElem_map,List.getElem_range]
            unfold out5
            by_cases h:i=15
            · subst h; simp
            · rw [if_neg (show ¬ 15=i by omega),if_pos h3,if_neg (show ¬ i<0 by omega),if_neg h]
          have b1:=QaV N 15
          have b2:=QaV N 0
          have eg0:limb N 0+19*(limb N 15/32768)=g5 N 0+cr (g5 N) 0:=by
            rw [QeV]
            unfold g5 out5
            simp
          generalize hm0:g5 N 0+cr (g5 N) 0=m0 at *
          generalize hlx:limb N 15=lx at *
          generalize hly:limb N 0=ly at *
          have w1:lx.tdiv 32768=lx/32768:=Int.tdiv_eq_ediv_of_nonneg (by omega)
          have w2:IntKind.i64.wrap (lx/32768)=lx/32768:=IntWalk.i64_in _ (by omega)
          have w3:lx.tmod 32768=lx%32768:=Int.tmod_eq_emod_of_nonneg (by omega)
          have w4:IntKind.i64.wrap (lx%32768)=lx%32768:=IntWalk.i64_in _ (by omega)
          have w5:IntKind.i64.wrap (19*(lx/32768))=19*(lx/32768):=IntWalk.i64_in _ (by omega)
          have w6:IntKind.i64.wrap (ly+19*(lx/32768))=ly+19*(lx/32768):=IntWalk.i64_in _ (by omega)
          have hcx:=QaE hC hX
          have hfx:=Qbm hC 15
          have hC2:=Qck 15 (.int .i64 (lx%32768)) hC
          have hcy:(wr.setCell ⟨w.heap.size+1+1,15,none⟩ (.int .i64 (lx%32768))).cell? ⟨w.heap.size+1+1,0,none⟩=some (.int .i64 ly):=QaE hC2 (by rw [Array.getElem?_setIfInBounds_ne (by decide)]; exact hY)
          rw [hS1] at hC2
          have hB2:=(Qa6 (W:=wr) 15 (.int .i64 (lx%32768)) (show w.heap.size+1≠w.heap.size+1+1 by omega)).trans hB
          have he2:=Qcl he (show w.heap.size≤w.heap.size+1+1 by omega) 15 (.int .i64 (lx%32768))
          generalize hwz:wr.setCell ⟨w.heap.size+1+1,15,none⟩ (.int .i64 (lx%32768))=wz at *
          go_wp2
          clear hcx hfx hcy hX hY hS1 hC hB he hwz w1 w2 w3 w4 w5 w6
          go_loopw [13,14] (fun c i wq=>∃ k:Nat,k≤16∧i=.int .i64 k∧(∃ m:Int,c=.int .i64 m∧0≤m∧m≤4611686018427387904∧(k<16→m=g5 N k+cr (g5 N) k))∧Ext w wq∧wq.heap[w.heap.size+1]? = some (.cells b 58) ∧
            wq.heap[w.heap.size+1+1]? = some (.cells (ints .i64 (mix 16 (limb (S5 N)) (out5 N) k)) 58)) (fun _ i _=>16-(intOf i).toNat)
          case atStart=>exact ⟨0,by omega,rfl,⟨_,rfl,by omega,by omega,fun _=>by rw [hm0]⟩,he2,hB2,hC2⟩
          case round =>
            clear he2 hB2 hC2 eg0 hm0 b1 b2
            obtain ⟨k,hk,rfl,⟨m,rfl,hm0,hm1,hme⟩,he,hB,hC⟩:=hrel
            by_cases hk16:k<16
            · have hme':=hme hk16
              have hX:(ints .i64 (mix 16 (limb (S5 N)) (out5 N) k))[k]? = some (.int .i64 (out5 N k)):=by rw [Qas _ _ _ (by rw [mix_len]; exact hk16),mix_nth _ _ _ _ _ hk16,if_neg (by omega)]
              have hS1:(ints .i64 (mix 16 (limb (S5 N)) (out5 N) k)).setIfInBounds k (.int .i64 (limb (S5 N) k))=ints .i64 (mix 16 (limb (S5 N)) (out5 N) (k+1)):=by rw [Qbz,mix_set _ _ _ _ hk16]
              have e1:=Qdp (g5 N) k 16 hk16
              have e2:=QeW (g5 N) k
              rw [QqA N ⟨HN.out.1,HN.out.2.1⟩,←hme'] at e1
              rw [←hme'] at e2
              have hcx:=QaE hC hX
              have hfx:=Qbm hC k
              have hC2:=Qck k (.int .i64 (limb (S5 N) k)) hC
              have hB2:=(Qa6 (W:=wr) k (.int .i64 (limb (S5 N) k)) (show w.heap.size+1≠w.heap.size+1+1 by omega)).trans hB
              have he2:=Qcl he (show w.heap.size≤w.heap.size+1+1 by omega) k (.int .i64 (limb (S5 N) k))
              rw [hS1] at hC2
              have w2:m.tmod 65536=m%65536:=Int.tmod_eq_emod_of_nonneg hm0
              have w3:IntKind.i64.wrap (m%65536)=m%65536:=IntWalk.i64_in _ (by omega)
              have w4:m.tdiv 65536=m/65536:=Int.tdiv_eq_ediv_of_nonneg hm0
              have w5:IntKind.i64.wrap (m/65536)=m/65536:=IntWalk.i64_in _ (by omega)
              by_cases hk15:k<15
              · have hZ:(ints .i64 (mix 16 (limb (S5 N)) (out5 N) (k+1)))[k+1]? = some (.int .i64 (out5 N (k+1))):=by rw [Qas _ _ _ (by rw [mix_len]; omega),mix_nth _ _ _ _ _ (by omega),if_neg (by omega)]
                have hcz:=QaE hC2 hZ
                have hor:=QjN N (k+1)
                have hgn:out5 N (k+1)+cr (g5 N) (k+1)=g5 N (k+1)+cr (g5 N) (k+1):=by
                  unfold g5
                  rw [if_neg (show ¬ k+1=0 by omega)]
                  omega
                have q1:IntKind.i64.wrap ((k:Int)+1)=(k:Int)+1:=IntWalk.i64_in _ (by omega)
                have q2:((k:Int)+1).toNat=k+1:=by omega
                have q3:(0:Int)≤(k:Int)+1:=by omega
                have q4:(k:Int)+1<16:=by omega
                have q5:(k:Int)<15:=by omega
                rw [←e2] at hgn
                have Hgn:=Lib.hid hgn
                clear hgn hme hme'
                generalize hoz:out5 N (k+1)=oz at *
                generalize hwz:wr.setCell ⟨w.heap.size+1+1,k,none⟩ (.int .i64 (limb (S5 N) k))=wz at *
                have w6:IntKind.i64.wrap (oz+m/65536)=oz+m/65536:=IntWalk.i64_in _ (by omega)
                go_wp2
                exact ⟨⟨k+1,by omega,by go_num,⟨_,rfl,by omega,by omega,fun _=>by have:=Hgn.out; omega⟩,he2,hB2,hC2⟩,by simp [intOf]; omega⟩
              · obtain rfl:k=15:=by omega
                clear hme hme'
                generalize hwz:wr.setCell ⟨w.heap.size+1+1,15,none⟩ (.int .i64 (limb (S5 N) 15))=wz at *
                go_wp2
                exact ⟨⟨16,by omega,rfl,⟨m,rfl,hm0,hm1,fun h=>by omega⟩,he2,hB2,hC2⟩,by simp [intOf]⟩
            · obtain rfl:k=16:=by omega
              clear hme
              have hV:=QqK N ⟨HN.out.1,HN.out.2.1⟩
              have hL:=QmL (S5 N) hV.1 hV.2.1
              have hres:lnum (S5 N%p)=lnum (n%p):=by
                have:=HN.out.2.2
                unfold p
                rw [hV.2.2,this]
              rw [mix_full _ _ _ _ (qR _)] at hC
              have hC:wr.heap[w.heap.size+1+1]? = some (.cells (ints .i64 (lims (S5 N))) 58):=hC
              clear HN
              generalize hVV:S5 N=V at *
              have hp0:(0:Int)≤p∧p<big:=by decide
              have hVb:0≤V∧V<big:=by unfold big; omega
              by_cases hge:p≤V
              · have hv:V-p=V%p:=hL.1 hge
                have hvb:0≤V%p∧V%p<p:=⟨Int.emod_nonneg _ (by decide),Int.emod_lt_of_pos _ (by decide)⟩
                have HA:Hid (∀ w,Calls Tryd.prog 98 #[.agg (ints .i64 (lims V)),.agg (ints .i64 (lims p))] w (Ret w (.bool true))):=Lib.hid fun w=>by
                  have:=QiB V p hVb hp0 w
                  rw [decide_eq_true hge] at this
                  exact this
                have HA2:Hid (∀ w,Calls Tryd.prog 98 #[.agg (ints .i64 (lims (V%p))),.agg (ints .i64 (lims p))] w (Ret w (.bool false))):=Lib.hid fun w=>by
                  have:=QiB (V%p) p ⟨hvb.1,by omega⟩ hp0 w
                  rw [decide_eq_false (by omega)] at this
                  exact this
                have HM:Hid (∀ w,Calls Tryd.prog 84 #[.agg (ints .i64 (lims V)),.agg (ints .i64 (lims p))] w (Ret w (.agg (ints .i64 (lims (V%p)))))):=Lib.hid fun w=>by
                  have:=minus V p hp0.1 hge hVb.2 w
                  rw [hv] at this
                  exact this
                generalize hR:V%p=R at *
                have HRES:=Lib.hid hres
                clear hres
                clear hv hvb hge hVb hL hV hVV hR
                go_wp2
                refine wp_loop_rounds 3 ?_
                rw [rounds_succ]
                go_wp2
                refine Qa8 Ext 2 103 [⟨none,[(3,none)]⟩,⟨none,[]⟩] kj kj rfl Ext.refl Ext.trans (fun F r0 hr hF=>?_)
                have f3:r0 3=.pointer (some ⟨w.heap.size+1+1,0,none⟩):=by rw [hr]; rfl
                clear hr
                simp only [List.take_succ_cons,List.take_zero]
                refine Qay (.agg (ints .i64 (lims V))) (fun ρ W hR hh=>?_) ?_
                · exact Qbi 58 (.tmp _) rfl _ (Eq.trans hh.1 f3) 58 _ (0,0) _ (Qaa (Qaa hC (Qai _)) hR) Tryd.underlying58 rfl (QbR _ (QaM _))
                refine Qay (.agg (ints .i64 (lims p))) (fun ρ W hR hh=>?_) ?_
                · simp only [guarded,QaU]
                  go_simp
                  exact ⟨Ext.refl _,(prime _).mono fun _ _ h=>h.const⟩
                simp only [List.cons_append,List.nil_append]
                refine hF.out fun W1 hR1=>?_
                simp only [List.take_succ_cons,List.take_zero,List.drop_succ_cons,List.drop_zero,fin,forall_eq,Act.put,List.setIfInBounds_toArray,List.set_cons_zero,List.set_cons_succ]
                clear hF f3
                go_wp2_with first
                  | (go_at_call 98
                     (with_reducible refine (HA.out _).mono ?_)
                     clear HA
                     rintro e w' ⟨rfl,hw⟩)
                have hBy:=Qaa (Qaa (Qaa hB (Qai _)) hR1) hw
                have hCy:=Qaa (Qaa (Qaa hC (Qai _)) hR1) hw
                have hey:=Ext.trans (Ext.trans (Ext.trans he (Qai _)) hR1) hw
                clear hB hC he hw hR1
                refine Qa8 Ext 2 103 [⟨none,[(3,none)]⟩,⟨none,[]⟩] kj kj rfl Ext.refl Ext.trans (fun F r0 hr hF=>?_)
                have f3:r0 3=.pointer (some ⟨w.heap.size+1+1,0,none⟩):=by rw [hr]; rfl
                clear hr
                simp only [List.take_succ_cons,List.take_zero]
                refine Qay (.agg (ints .i64 (lims V))) (fun ρ W hR hh=>?_) ?_
                · exact Qbi 58 (.tmp _) rfl _ (Eq.trans hh.1 f3) 58 _ (0,0) _ (Qaa (Qaa hCy (Qai _)) hR) Tryd.underlying58 rfl (QbR _ (QaM _))
                refine Qay (.agg (ints .i64 (lims p))) (fun ρ W hR hh=>?_) ?_
                · simp only [guarded,QaU]
                  go_simp
                  exact ⟨Ext.refl _,(prime _).mono fun _ _ h=>h.const⟩
                simp only [List.cons_append,List.nil_append]
                refine hF.out fun W2 hR2=>?_
                simp only [List.take_succ_cons,List.take_zero,List.drop_succ_cons,List.drop_zero,fin,forall_eq,Act.put,List.setIfInBounds_toArray,List.set_cons_zero,List.set_cons_succ]
                clear hF f3
                go_wp2_with first
                  | (go_at_call 84
                     (with_reducible refine (HM.out _).mono ?_)
                     clear HM
                     rintro e w'' ⟨rfl,hw⟩
                     have hBx:=Qaa (Qaa (Qaa hBy (Qai _)) hR2) hw
                     have hCx:=Qaa (Qaa (Qaa hCy (Qai _)) hR2) hw
                     have hex:=Ext.trans (Ext.trans (Ext.trans hey (Qai _)) hR2) hw)
                  | (with_reducible show wpList _ _ _ ((⟨_,.store 58 _ _,_,_,_,_⟩:Oper)::_) _ _
                     refine wpList_store_row rfl 58 _ _ rfl (w.heap.size+1+1) _ rfl rfl 58 _ hCx (QbR _ (QaM _)) (by rw [Qae,Qae,QaM,QaM]) (ints_one _ _) ?_)
                have hCv:(w''.setRow (w.heap.size+1+1) (ints .i64 (lims R))).heap[w.heap.size+1+1]? = some (.cells (ints .i64 (lims R)) 58):=setRow_heap _ _ _ _ _ _ hCx
                have hBv:=(setRow_other w'' (w.heap.size+1+1) (w.heap.size+1) (ints .i64 (lims R)) (by omega)).trans hBx
                have hev:=QaO hex (show w.heap.size≤w.heap.size+1+1 by omega) (ints .i64 (lims R))
                generalize w''.setRow (w.heap.size+1+1) (ints .i64 (lims R))=wv at *
                clear hCx hBx hex hw hCy hBy hey hR2
                rw [rounds_succ]
                go_wp2
                refine Qa8 Ext 2 103 [⟨none,[(3,none)]⟩,⟨none,[]⟩] kj kj rfl Ext.refl Ext.trans (fun F r0 hr hF=>?_)
                have f3:r0 3=.pointer (some ⟨w.heap.size+1+1,0,none⟩):=by rw [hr]; rfl
                clear hr
                simp only [List.take_succ_cons,List.take_zero]
                refine Qay (.agg (ints .i64 (lims R))) (fun ρ W hR hh=>?_) ?_
                · exact Qbi 58 (.tmp _) rfl _ (Eq.trans hh.1 f3) 58 _ (0,0) _ (Qaa (Qaa hCv (Qai _)) hR) Tryd.underlying58 rfl (QbR _ (QaM _))
                refine Qay (.agg (ints .i64 (lims p))) (fun ρ W hR hh=>?_) ?_
                · simp only [guarded,QaU]
                  go_simp
                  exact ⟨Ext.refl _,(prime _).mono fun _ _ h=>h.const⟩
                simp only [List.cons_append,List.nil_append]
                refine hF.out fun W3 hR3=>?_
                simp only [List.take_succ_cons,List.take_zero,List.drop_succ_cons,List.drop_zero,fin,forall_eq,Act.put,List.setIfInBounds_toArray,List.set_cons_zero,List.set_cons_succ]
                clear hF f3
                go_wp2_with first
                  | (go_at_call 98
                     (with_reducible refine (HA2.out _).mono ?_)
                     clear HA2
                     rintro e w4 ⟨rfl,hw4⟩
                     have hBz:=Qaa (Qaa (Qaa hBv (Qai _)) hR3) hw4
                     have hCz:=Qaa (Qaa (Qaa hCv (Qai _)) hR3) hw4
                     have hez:=Ext.trans (Ext.trans (Ext.trans hev (Qai _)) hR3) hw4
                     clear hw4)
                  | (with_reducible show wpList _ _ _ ((⟨_,.load 58 _,_,_,_,_⟩:Oper)::_) _ _
                     refine wpList_load_row rfl 58 _ rfl (w.heap.size+1+1) rfl 58 _ (0,0) _ hCz Tryd.underlying58 rfl (QbR _ (QaM _)) ?_)
                  | (with_reducible show wpList _ _ _ ((⟨_,.store 58 _ _,_,_,_,_⟩:Oper)::_) _ _
                     refine wpList_store_row rfl 58 _ _ rfl (w.heap.size+1) _ rfl rfl 58 _ hBz (QbR _ (QaM _)) (by rw [hbs,Qae,QaM]) (ints_one _ _) ?_)
                exact bodyPost_ret (results_cell_row (p:=2) rfl _ _ (w.heap.size+1) 58 _ (0,0) _ rfl (setRow_heap _ _ _ _ _ _ hBz) Tryd.underlying58 rfl (QbR _ (QaM _))) rfl ⟨by rw [←HRES.out]; rfl,QaO hez (by omega) _⟩
              · have hv:V=V%p:=hL.2 hge
                have HA:Hid (∀ w,Calls Tryd.prog 98 #[.agg (ints .i64 (lims V)),.agg (ints .i64 (lims p))] w (Ret w (.bool false))):=Lib.hid fun w=>by
                  have:=QiB V p hVb hp0 w
                  rw [decide_eq_false hge] at this
                  exact this
                rw [←hv] at hres
                have HRES:=Lib.hid hres
                clear hres
                clear hv hge hVb hL hV hVV
                go_wp2
                refine wp_loop_rounds 2 ?_
                rw [rounds_succ]
                go_wp2
                refine Qa8 Ext 2 103 [⟨none,[(3,none)]⟩,⟨none,[]⟩] kj kj rfl Ext.refl Ext.trans (fun F r0 hr hF=>?_)
                have f3:r0 3=.pointer (some ⟨w.heap.size+1+1,0,none⟩):=by rw [hr]; rfl
                clear hr
                simp only [List.take_succ_cons,List.take_zero]
                refine Qay (.agg (ints .i64 (lims V))) (fun ρ W hR hh=>?_) ?_
                · exact Qbi 58 (.tmp _) rfl _ (Eq.trans hh.1 f3) 58 _ (0,0) _ (Qaa (Qaa hC (Qai _)) hR) Tryd.underlying58 rfl (QbR _ (QaM _))
                refine Qay (.agg (ints .i64 (lims p))) (fun ρ W hR hh=>?_) ?_
                · simp only [guarded,QaU]
                  go_simp
                  exact ⟨Ext.refl _,(prime _).mono fun _ _ h=>h.const⟩
                simp only [List.cons_append,List.nil_append]
                refine hF.out fun W1 hR1=>?_
                simp only [List.take_succ_cons,List.take_zero,List.drop_succ_cons,List.drop_zero,fin,forall_eq,Act.put,List.setIfInBounds_toArray,List.set_cons_zero,List.set_cons_succ]
                clear hF f3
                go_wp2_with first
                  | (go_at_call 98
                     (with_reducible refine (HA.out _).mono ?_)
                     clear HA
                     rintro e w4 ⟨rfl,hw4⟩
                     have hBz:=Qaa (Qaa (Qaa hB (Qai _)) hR1) hw4
                     have hCz:=Qaa (Qaa (Qaa hC (Qai _)) hR1) hw4
                     have hez:=Ext.trans (Ext.trans (Ext.trans he (Qai _)) hR1) hw4
                     clear hw4)
                  | (with_reducible show wpList _ _ _ ((⟨_,.load 58 _,_,_,_,_⟩:Oper)::_) _ _
                     refine wpList_load_row rfl 58 _ rfl (w.heap.size+1+1) rfl 58 _ (0,0) _ hCz Tryd.underlying58 rfl (QbR _ (QaM _)) ?_)
                  | (with_reducible show wpList _ _ _ ((⟨_,.store 58 _ _,_,_,_,_⟩:Oper)::_) _ _
                     refine wpList_store_row rfl 58 _ _ rfl (w.heap.size+1) _ rfl rfl 58 _ hBz (QbR _ (QaM _)) (by rw [hbs,Qae,QaM]) (ints_one _ _) ?_)
                exact bodyPost_ret (results_cell_row (p:=2) rfl _ _ (w.heap.size+1) 58 _ (0,0) _ rfl (setRow_heap _ _ _ _ _ _ hBz) Tryd.underlying58 rfl (QbR _ (QaM _))) rfl ⟨by rw [←HRES.out]; rfl,QaO hez (by omega) _⟩
end Go.Proofs.YtdoadngmgmdlbaaDoor.Field
end
section
namespace Go.Proofs.YtdoadngmgmdlbaaDoor.Field
open Go Go.RowKit
open Rely
theorem ext4 (w : World) (a b c d:Obj):Ext w ((((w.alloc a).alloc b).alloc c).alloc d):=Ext.trans (ext3 w a b c) (QaJ _ _)
theorem Qhd (w : World) (a b c d:Obj):((((w.alloc a).alloc b).alloc c).alloc d).heap[w.heap.size]? = some a:=by
  rw [Below.heap_alloc _ _ _ (by simp only [World.size_alloc]; omega)]; exact QcC _ _ _ _
theorem Qhc (w : World) (a b c d:Obj):((((w.alloc a).alloc b).alloc c).alloc d).heap[w.heap.size+1]? = some b:=by
  rw [Below.heap_alloc _ _ _ (by simp only [World.size_alloc]; omega)]; exact QbS _ _ _ _
theorem Qhb (w : World) (a b c d:Obj):((((w.alloc a).alloc b).alloc c).alloc d).heap[w.heap.size+1+1]? = some c:=by
  rw [Below.heap_alloc _ _ _ (by simp only [World.size_alloc]; omega)]; exact Qbw _ _ _ _
theorem Qha (w : World) (a b c d:Obj):((((w.alloc a).alloc b).alloc c).alloc d).heap[w.heap.size+1+1+1]? = some d:=by
  have:=heap_alloc_new (((w.alloc a).alloc b).alloc c) d
  simpa using this
theorem QkA (f : Nat→Int) (k:Nat) (hk:k≤32):pvf (nth (mix 32 f (fun _=>0) k)) 32=pvf f k:=by
  rw [Qe1 (nth (mix 32 f (fun _=>0) k)) k 32 hk fun j a b=>by rw [mix_nth _ _ _ _ _ b,if_neg (by omega)]]
  exact QcG (n:=k) (fun i hi=>by rw [mix_nth _ _ _ _ _ (by omega),if_pos hi]) k (qR _)
theorem Qh9 (f : Nat→Int) (k:Nat) (hf:∀ i,i<k→0≤f i∧f i≤M) (i:Nat) (hi:i<32):0≤nth (mix 32 f (fun _=>0) k) i∧nth (mix 32 f (fun _=>0) k) i≤M:=by
  rw [mix_nth _ _ _ _ _ hi]
  split
  · exact hf i (by assumption)
  · decide
theorem Qfn (x : Int) (hx:0≤x∧x<big):pvf (limb x) 16=x:=by rw [QcN,Ql9,Int.emod_eq_of_lt hx.1 hx.2]
theorem Qow : (65536:Int)^32=big*big:=by decide
theorem lAdd (x y:Int) (hx:0≤x∧x<big) (hy:0≤y∧y<big) (w:World):Calls Tryd.prog 73 #[lnum x,lnum y] w (Ret w (lnum ((x+y)%p))):=by
  have HC:Hid (∀ w,Calls Tryd.prog 86 #[.agg (ints .i64 (mix 32 (fun i=>limb x i+limb y i) (fun _=>0) 16))] w (Ret w (lnum ((x+y)%p)))):=Lib.hid fun w=>by
    have hv:pvf (nth (mix 32 (fun i=>limb x i+limb y i) (fun _=>0) 16)) 32=x+y:=by
      rw [QkA _ _ (by decide),QgB,Qfn x hx,Qfn y hy]
    have:=small (mix 32 (fun i=>limb x i+limb y i) (fun _=>0) 16) (mix_len _ _ _ _) (Qh9 _ 16 fun i _=>by
      have:=QaV x i
      have:=QaV y i
      unfold M
      omega) (by rw [hv,Qow]; unfold big at *; omega) w
    rw [hv] at this
    exact this
  unfold lnum at HC ⊢
  generalize hr:lims ((x+y)%p)=res at *
  have hrl:res.length=16:=by rw [←hr]; exact QaM _
  clear hr
  go_enter Tryd.func73,Tryd.ntmps73
  go_wp2_with fail
  go_loopw [6] (fun i wr=>∃ k:Nat,k≤16∧i=.int .i64 k∧Ext w wr∧wr.heap[w.heap.size]? = some (.cells (ints .i64 (lims x)) 58)∧wr.heap[w.heap.size+1]? = some (.cells (ints .i64 (lims y)) 58) ∧
    (∃ b,b.size=16∧wr.heap[w.heap.size+1+1]? = some (.cells b 58))∧wr.heap[w.heap.size+1+1+1]? = some (.cells (ints .i64 (mix 32 (fun i=>limb x i+limb y i) (fun _=>0) k)) 116)) (fun i _=>16-(intOf i).toNat)
  case atStart=>exact ⟨0,by omega,rfl,ext4 _ _ _ _ _,Qhd _ _ _ _ _,Qhc _ _ _ _ _,⟨_,rfl,Qhb _ _ _ _ _⟩,Qha _ _ _ _ _⟩
  case round =>
    obtain ⟨k,hk,rfl,he,hA,hB,⟨b,hbs,hC⟩,hD⟩:=hrel
    by_cases hlt:k<16
    · have hX:(ints .i64 (lims x))[k]? = some (.int .i64 (limb x k)):=by rw [Qas _ _ _ (by rw [QaM]; exact hlt),QcP _ _ hlt]
      have hY:(ints .i64 (lims y))[k]? = some (.int .i64 (limb y k)):=by rw [Qas _ _ _ (by rw [QaM]; exact hlt),QcP _ _ hlt]
      have hZ:(ints .i64 (mix 32 (fun i=>limb x i+limb y i) (fun _=>0) k))[k]? = some (.int .i64 0):=by rw [Qas _ _ _ (by rw [mix_len]; omega),mix_nth _ _ _ _ _ (by omega),if_neg (by omega)]
      have hS:(ints .i64 (mix 32 (fun i=>limb x i+limb y i) (fun _=>0) k)).setIfInBounds k (.int .i64 (limb x k+limb y k))=ints .i64 (mix 32 (fun i=>limb x i+limb y i) (fun _=>0) (k+1)):=by
        rw [Qbz,←mix_set _ _ _ _ (by omega)]
      have h3:=QaV x k
      have h4:=QaV y k
      generalize hlx:limb x k=lx at *
      generalize hly:limb y k=ly at *
      have w1:IntKind.i64.wrap (lx+ly)=lx+ly:=IntWalk.i64_in _ (by omega)
      have q5:(k:Int)<32:=by omega
      have HX:Hid (∀ W,Ext wr.drew W→W.cell? ⟨w.heap.size,k,none⟩=some (.int .i64 lx)):=Lib.hid fun W hR=>QaE (Qaa (Qaa hA (Qai _)) hR) hX
      have HY:Hid (∀ W,Ext wr.drew W→W.cell? ⟨w.heap.size+1,k,none⟩=some (.int .i64 ly)):=Lib.hid fun W hR=>QaE (Qaa (Qaa hB (Qai _)) hR) hY
      go_wp2
      refine Qa8 Ext 9 22 [⟨none,[(6,none)]⟩,⟨none,[(6,none)]⟩,⟨none,[(2,none),(12,some 1)]⟩,⟨none,[(13,some 2)]⟩,⟨none,[(6,none)]⟩,⟨none,[(3,none),(15,some 4)]⟩,⟨none,[(16,some 5)]⟩,⟨none,[(14,some 3),(17,some 6)]⟩,⟨none,[(5,none),(11,some 0)]⟩] kj kj rfl Ext.refl Ext.trans (fun F r0 hr hF=>?_)
      have f2:r0 2=.pointer (some ⟨w.heap.size,0,none⟩):=by rw [hr]; rfl
      have f3:r0 3=.pointer (some ⟨w.heap.size+1,0,none⟩):=by rw [hr]; rfl
      have f5:r0 5=.pointer (some ⟨w.heap.size+1+1+1,0,none⟩):=by rw [hr]; rfl
      have f6:r0 6=.int .i64 k:=by rw [hr]; rfl
      clear hr
      simp only [List.take_succ_cons,List.take_zero]
      repeat
        (try simp only [List.cons_append,List.nil_append]
         apply Qay
         (intro ρ W hR hh
          have hcx:=HX.out W hR
          have hcy:=HY.out W hR
          simp only [Qca,List.getD_cons_zero,List.getD_cons_succ,f2,f3,f5,f6] at hh
          simp only [guarded,QaU]
          go_simp
          first
            | exact ⟨Ext.refl _,rfl⟩
            | exact Ext.refl _))
      simp only [List.cons_append,List.nil_append]
      refine hF.out fun W hRW=>?_
      simp only [List.take_succ_cons,List.take_zero,List.drop_succ_cons,List.drop_zero,fin,forall_eq,Act.put,List.setIfInBounds_toArray,List.set_cons_zero,List.set_cons_succ]
      clear HX HY hF f2 f3 f5 f6
      have hE:=Ext.trans (Qai wr) hRW
      have hA':=Qaa hA hE
      have hB':=Qaa hB hE
      have hC':=Qaa hC hE
      have hD':=Qaa hD hE
      have hcx:=QaE hD' hZ
      have hfx:=Qbm hD' k
      go_wp2
      exact ⟨⟨k+1,by omega,by go_num,Qcl (Ext.trans he hE) (by omega) _ _,(Qa6 _ _ (by omega)).trans hA',(Qa6 _ _ (by omega)).trans hB',⟨b,hbs,(Qa6 _ _ (by omega)).trans hC'⟩,(Qck _ _ hD').trans (by rw [hS])⟩,by simp [intOf]; omega⟩
    · obtain rfl:k=16:=by omega
      go_wp2_with first
        | (go_at_call 86
           (with_reducible refine (HC.out _).mono ?_)
           rintro e w' ⟨rfl,hw⟩
           have hC':=Qaa hC hw)
        | (with_reducible show wpList _ _ _ ((⟨_,.load 116 _,_,_,_,_⟩:Oper)::_) _ _
           refine wpList_load_row rfl 116 _ rfl (w.heap.size+1+1+1) rfl 116 _ (0,0) _ hD Tryd.underlying116 rfl (Qle _ (mix_len _ _ _ _)) ?_)
        | (with_reducible show wpList _ _ _ ((⟨_,.store 58 _ _,_,_,_,_⟩:Oper)::_) _ _
           refine wpList_store_row rfl 58 _ _ rfl (w.heap.size+1+1) _ rfl rfl 58 _ hC' (QbR _ hrl) (by rw [hbs,Qae,hrl]) (ints_one _ _) ?_)
      exact bodyPost_ret (results_cell_row (p:=4) rfl _ _ (w.heap.size+1+1) 58 _ (0,0) _ rfl (setRow_heap _ _ _ _ _ _ hC') Tryd.underlying58 rfl (QbR _ hrl)) rfl ⟨rfl,QaO (Ext.trans he hw) (by omega) _⟩
end Go.Proofs.YtdoadngmgmdlbaaDoor.Field
end
section
namespace Go.Proofs.YtdoadngmgmdlbaaDoor.Field
open Go Go.RowKit
open Rely
theorem lSub (x y:Int) (hx:0≤x∧x<big) (hy:0≤y∧y≤p) (w:World):Calls Tryd.prog 76 #[lnum x,lnum y] w (Ret w (lnum ((x-y)%p))):=by
  have hp0:(0:Int)≤p∧p<big:=by decide
  have HM:Hid (∀ w,Calls Tryd.prog 84 #[lnum p,lnum y] w (Ret w (lnum (p-y)))):=Lib.hid fun w=>minus p y hy.1 hy.2 hp0.2 w
  have HA:Hid (∀ w,Calls Tryd.prog 73 #[lnum x,lnum (p-y)] w (Ret w (lnum ((x-y)%p)))):=Lib.hid fun w=>by
    have:=lAdd x (p-y) hx (by omega) w
    rw [show (x+(p-y))%p=(x-y)%p by rw [show x+(p-y)=x-y+p by omega,Int.add_emod_right]] at this
    exact this
  have HP:Hid (∀ w,Calls Tryd.prog 85 #[] w (Ret w (lnum p))):=Lib.hid prime
  unfold lnum at HM HA HP ⊢
  have hxl:=QaM x
  have hyl:=QaM y
  have hrl:=QaM ((x-y)%p)
  generalize lims ((x-y)%p)=res at *
  generalize lims (p-y)=l1 at *
  generalize lims x=lx at *
  generalize lims y=ly at *
  generalize lims p=lp at *
  clear hx hy hp0
  go_enter Tryd.func76,Tryd.ntmps76
  go_wp2_with fail
  generalize hW:((w.alloc (.cells (ints .i64 lx) 58)).alloc (.cells (ints .i64 ly) 58)).alloc _=W0
  have hA:W0.heap[w.heap.size]? = some (.cells (ints .i64 lx) 58):=by rw [←hW]; exact QcC _ _ _ _
  have hB:W0.heap[w.heap.size+1]? = some (.cells (ints .i64 ly) 58):=by rw [←hW]; exact QbS _ _ _ _
  have hC:∃ b:Array Value,b.size=16∧W0.heap[w.heap.size+1+1]? = some (.cells b 58):=by rw [←hW]; exact ⟨_,rfl,Qbw _ _ _ _⟩
  obtain ⟨b,hbs,hC⟩:=hC
  have he:Ext w W0:=by rw [←hW]; exact ext3 _ _ _ _
  clear hW
  refine Qa8 Ext 4 10 [⟨none,[(2,none)]⟩,⟨none,[]⟩,⟨none,[(3,none)]⟩,⟨none,[(6,some 1),(7,some 2)]⟩] kj kj rfl Ext.refl Ext.trans (fun F r0 hr hF=>?_)
  have f2:r0 2=.pointer (some ⟨w.heap.size,0,none⟩):=by rw [hr]; rfl
  have f3:r0 3=.pointer (some ⟨w.heap.size+1,0,none⟩):=by rw [hr]; rfl
  clear hr
  simp only [List.take_succ_cons,List.take_zero]
  refine Qay (.agg (ints .i64 lx)) (fun ρ W hR hh=>?_) ?_
  · exact Qbi 58 (.tmp _) rfl _ (Eq.trans hh.1 f2) 58 _ (0,0) _ (Qaa (Qaa hA (Qai _)) hR) Tryd.underlying58 rfl (QbR _ hxl)
  refine Qay (.agg (ints .i64 lp)) (fun ρ W hR hh=>?_) ?_
  · simp only [guarded,QaU]
    go_simp
    exact ⟨Ext.refl _,(HP.out _).mono fun _ _ h=>h.const⟩
  refine Qay (.agg (ints .i64 ly)) (fun ρ W hR hh=>?_) ?_
  · exact Qbi 58 (.tmp _) rfl _ (Eq.trans hh.1 f3) 58 _ (0,0) _ (Qaa (Qaa hB (Qai _)) hR) Tryd.underlying58 rfl (QbR _ hyl)
  refine Qay (.agg (ints .i64 l1)) (fun ρ W hR hh=>?_) ?_
  · have h6:ρ 6=.agg (ints .i64 lp):=hh.1
    have h7:ρ 7=.agg (ints .i64 ly):=hh.2.1
    simp only [guarded,QaU]
    go_simp
    exact ⟨Ext.refl _,(HM.out _).mono fun _ _ h=>h.const⟩
  simp only [List.cons_append,List.nil_append]
  refine hF.out fun W hR=>?_
  simp only [List.take_succ_cons,List.take_zero,List.drop_succ_cons,List.drop_zero,fin,forall_eq,Act.put,List.setIfInBounds_toArray,List.set_cons_zero,List.set_cons_succ]
  clear hF
  go_wp2_with first
    | (go_at_call 73
       (with_reducible refine (HA.out _).mono ?_)
       rintro e w' ⟨rfl,hw⟩
       have hC':=Qaa (Qaa (Qaa hC (Qai _)) hR) hw
       have he':=Ext.trans (Ext.trans (Ext.trans he (Qai _)) hR) hw)
    | (with_reducible show wpList _ _ _ ((⟨_,.store 58 _ _,_,_,_,_⟩:Oper)::_) _ _
       refine wpList_store_row rfl 58 _ _ rfl (w.heap.size+1+1) _ rfl rfl 58 _ hC' (QbR _ hrl) (by rw [hbs,Qae,hrl]) (ints_one _ _) ?_)
  exact bodyPost_ret (results_cell_row (p:=4) rfl _ _ (w.heap.size+1+1) 58 _ (0,0) _ rfl (setRow_heap _ _ _ _ _ _ hC') Tryd.underlying58 rfl (QbR _ hrl)) rfl ⟨rfl,QaO he' (by omega) _⟩
theorem Qnm (n : Int) (k:Nat):limb n k%256=Qap n (2*k):=by
  unfold limb Qap
  rw [Int.pow_mul,show (256:Int)^2=65536 by decide]
  omega
theorem Ql5 (n : Int) (k:Nat):limb n k/256=Qap n (2*k+1):=by
  unfold limb Qap
  rw [Int.pow_succ,Int.pow_mul,show (256:Int)^2=65536 by decide,←Int.ediv_ediv_of_nonneg (Int.le_of_lt (QfV k))]
  omega
theorem QnF (n : Int) (w:World):Calls Tryd.prog 57 #[lnum n] w (Ret w (.agg (ints .u8 (Qao n)))):=by
  unfold lnum
  go_enter Tryd.func57,Tryd.ntmps57
  go_wp2_with fail
  go_loopw [4] (fun i wr=>∃ k:Nat,k≤16∧i=.int .i64 k∧Ext w wr∧wr.heap[w.heap.size]? = some (.cells (ints .i64 (lims n)) 58) ∧
    (∃ b,b.size=32∧wr.heap[w.heap.size+1]? = some (.cells b 23))∧wr.heap[w.heap.size+1+1]? = some (.cells (ints .u8 (part n (2*k))) 23)) (fun i _=>16-(intOf i).toNat)
  case atStart=>exact ⟨0,by omega,rfl,ext3 _ _ _ _,QcC _ _ _ _,⟨_,rfl,QbS _ _ _ _⟩,Qbw _ _ _ _⟩
  case round =>
    obtain ⟨k,hk,rfl,he,hA,⟨b,hbs,hB⟩,hC⟩:=hrel
    by_cases hlt:k<16
    · have hX:(ints .i64 (lims n))[k]? = some (.int .i64 (limb n k)):=by rw [Qas _ _ _ (by rw [QaM]; exact hlt),QcP _ _ hlt]
      have g1:=QgI n (2*k) (by omega)
      have s1:=QgH n (2*k) (by omega)
      have g2:=QgI n (2*k+1) (by omega)
      have s2:=QgH n (2*k+1) (by omega)
      have e1:=Qnm n k
      have e2:=Ql5 n k
      have b1:=QaV n k
      generalize hlx:limb n k=lx at *
      have q1:IntKind.i64.wrap (2*(k:Int))=2*(k:Int):=IntWalk.i64_in _ (by omega)
      have q2:(2*(k:Int)).toNat=2*k:=by omega
      have q3:(0:Int)≤2*(k:Int):=by omega
      have q4:2*(k:Int)<32:=by omega
      have q5:IntKind.i64.wrap (2*(k:Int)+1)=2*(k:Int)+1:=IntWalk.i64_in _ (by omega)
      have q6:(2*(k:Int)+1).toNat=2*k+1:=by omega
      have q7:(0:Int)≤2*(k:Int)+1:=by omega
      have q8:2*(k:Int)+1<32:=by omega
      have w2:lx.tmod 256=lx%256:=Int.tmod_eq_emod_of_nonneg (by omega)
      have w3:IntKind.i64.wrap (lx%256)=lx%256:=IntWalk.i64_in _ (by omega)
      have w4:lx.tdiv 256=lx/256:=Int.tdiv_eq_ediv_of_nonneg (by omega)
      have w5:IntKind.i64.wrap (lx/256)=lx/256:=IntWalk.i64_in _ (by omega)
      have w6:IntKind.u8.wrap (lx%256)=lx%256:=by rw [IntKind.wrap_u8]; omega
      have w7:IntKind.u8.wrap (lx/256)=lx/256:=by rw [IntKind.wrap_u8]; omega
      have hcx:=QaE hA hX
      have hcy:=QaE hC g1
      have hfy:=Qbm hC (2*k)
      have hC2:=Qck (2*k) (.int .u8 (lx%256)) hC
      rw [e1,s1] at hC2
      rw [←e1] at hC2
      have hA2:=(Qa6 (W:=wr) (2*k) (.int .u8 (lx%256)) (show w.heap.size≠w.heap.size+1+1 by omega)).trans hA
      have hB2:=(Qa6 (W:=wr) (2*k) (.int .u8 (lx%256)) (show w.heap.size+1≠w.heap.size+1+1 by omega)).trans hB
      have he2:=Qcl he (show w.heap.size≤w.heap.size+1+1 by omega) (2*k) (.int .u8 (lx%256))
      generalize hwz:wr.setCell ⟨w.heap.size+1+1,2*k,none⟩ (.int .u8 (lx%256))=wz at *
      have hcx2:=QaE hA2 hX
      have hcy2:=QaE hC2 g2
      have hfy2:=Qbm hC2 (2*k+1)
      have e1':=Lib.hid e1
      have e2':=Lib.hid e2
      clear e1 e2 s1
      go_wp2
      exact ⟨⟨k+1,by omega,by go_num,Qcl he2 (by omega) _ _,(Qa6 _ _ (by omega)).trans hA2,⟨b,hbs,(Qa6 _ _ (by omega)).trans hB2⟩,(Qck _ _ hC2).trans (by rw [e2'.out,s2]; rfl)⟩,by simp [intOf]; omega⟩
    · obtain rfl:k=16:=by omega
      have hi:(Tryd.prog.info? 23).map (·.size)=some (ints .u8 (Qao n)).size:=by rw [infoKey,Qae]; rfl
      have hbl:b.size=(ints .u8 (Qao n)).size:=by rw [hbs,Qae]; rfl
      have hC:wr.heap[w.heap.size+1+1]? = some (.cells (ints .u8 (Qao n)) 23):=hC
      go_wp2_with first
        | (with_reducible show wpList _ _ _ ((⟨_,.load 23 _,_,_,_,_⟩:Oper)::_) _ _
           refine wpList_load_row rfl 23 _ rfl (w.heap.size+1+1) rfl 23 (ints .u8 (Qao n)) (0,0) _ hC Tryd.underlying23 rfl hi ?_)
        | (with_reducible show wpList _ _ _ ((⟨_,.store 23 _ _,_,_,_,_⟩:Oper)::_) _ _
           refine wpList_store_row rfl 23 _ _ rfl (w.heap.size+1) (ints .u8 (Qao n)) rfl rfl 23 _ hB hi hbl (ints_one _ _) ?_)
      exact bodyPost_ret (results_cell_row (p:=2) rfl _ _ (w.heap.size+1) 23 (ints .u8 (Qao n)) (0,0) _ rfl (setRow_heap _ _ _ _ _ _ hB) Tryd.underlying23 rfl hi) rfl ⟨rfl,QaO he (by omega) _⟩
end Go.Proofs.YtdoadngmgmdlbaaDoor.Field
end
section
namespace Go.Proofs.YtdoadngmgmdlbaaDoor.Field
open Go Go.RowKit
open Rely
def QeY : Int:=57896044618658097711785492504343953926634992332820282019728792003956564819968
def Qb9 (xs : List Int) (i:Nat):Int:=nth xs (2*i)+256*nth xs (2*i+1)
def Qcu (xs : List Int) (i:Nat):Int:=if i=15 then Qb9 xs 15%32768 else Qb9 xs i
theorem QcS (xs : List Int) (hb:Qal xs) (i:Nat):0≤Qb9 xs i∧Qb9 xs i<65536:=by
  have h1:=hb.nth (2*i)
  have h2:=hb.nth (2*i+1)
  unfold Qb9
  omega
theorem QgJ (xs : List Int):∀ k,pvf (Qb9 xs) k=leAt xs 0 (2*k)
  | 0=>rfl
  | k+1=>by
    have e:2*(k+1)=2*k+1+1:=by omega
    have f:(256:Int)^(2*k)=65536^k:=by rw [Int.pow_mul]; rfl
    have f':(256:Int)^(2*k+1)=256*65536^k:=by rw [Int.pow_succ,f,Int.mul_comm]
    rw [pvf,QgJ xs k,e,leAt,leAt,Nat.zero_add,Nat.zero_add,f,f',Qb9]
    generalize (65536:Int)^k=b
    generalize nth xs (2*k)=u
    generalize nth xs (2*k+1)=v
    generalize leAt xs 0 (2*k)=z
    grind
theorem Qmm (xs : List Int) (hb:Qal xs):pvf (Qcu xs) 16=leAt xs 0 32%QeY:=by
  have h:=QgJ xs 16
  have e1:pvf (Qb9 xs) 16=pvf (Qb9 xs) 15+Qb9 xs 15*65536^15:=rfl
  have e2:pvf (Qcu xs) 16=pvf (Qcu xs) 15+Qcu xs 15*65536^15:=rfl
  have e3:pvf (Qcu xs) 15=pvf (Qb9 xs) 15:=QcG (n:=15) (fun i hi=>by unfold Qcu; rw [if_neg (by omega)]) 15 (qR _)
  have e4:Qcu xs 15=Qb9 xs 15%32768:=by unfold Qcu; rw [if_pos rfl]
  have r1:=Qf4 (Qb9 xs) 15 (fun i _=>QcS xs hb i) 15 (qR _)
  have r2:=QcS xs hb 15
  have f1:(65536:Int)^15=1766847064778384329583297500742918515827483896875618958121606201292619776:=by decide
  rw [show 2*16=32 from rfl] at h
  rw [←h,e1,e2,e3,e4,f1]
  rw [f1] at r1
  unfold QeY
  omega
theorem Qpq (xs : List Int):(mix 32 (Qb9 xs) (fun _=>0) 16).set 15 (Qb9 xs 15%32768)=mix 32 (Qcu xs) (fun _=>0) 16:=by
  refine List.ext_getElem (by simp [mix]) fun i h1 h2=>?_
  have h3:i<32:=by simpa [mix] using h2
  simp only [mix,List.getElem_set,List.getElem_map,List.getElem_range]
  unfold Qcu
  by_cases h:i=15
  · subst h; simp
  · rw [if_neg (show ¬ 15=i by omega),if_neg h]
set_option maxRecDepth 100000 in
theorem lFrom (xs : List Int) (hl:xs.length=32) (hb:Qal xs) (w:World):Calls Tryd.prog 60 #[.agg (ints .u8 xs)] w (Ret w (lnum (leAt xs 0 32%57896044618658097711785492504343953926634992332820282019728792003956564819968%p))):=by
  have hi:(Tryd.prog.info? 23).map (·.size)=some (ints .u8 xs).size:=by rw [infoKey,Qae,hl]
  have hv:pvf (nth (mix 32 (Qcu xs) (fun _=>0) 16)) 32=leAt xs 0 32%QeY:=by rw [QkA _ _ (by decide),Qmm xs hb]
  have HC:Hid (∀ w,Calls Tryd.prog 86 #[.agg (ints .i64 (mix 32 (Qcu xs) (fun _=>0) 16))] w (Ret w (lnum (leAt xs 0 32%QeY%p)))):=Lib.hid fun w=>by
    have:=small (mix 32 (Qcu xs) (fun _=>0) 16) (mix_len _ _ _ _) (Qh9 _ 16 fun i _=>by
      have:=QcS xs hb i
      have:=QcS xs hb 15
      unfold Qcu M
      split <;> omega) (by
        rw [hv,Qow]
        have h1:=Int.emod_nonneg (leAt xs 0 32) (show QeY≠0 by decide)
        have h2:=Int.emod_lt_of_pos (leAt xs 0 32) (show (0:Int)<QeY by decide)
        have h3:QeY<big*big:=by decide
        omega) w
    rw [hv] at this
    exact this
  unfold lnum QeY at HC
  unfold lnum
  have hrl:=QaM (leAt xs 0 32%57896044618658097711785492504343953926634992332820282019728792003956564819968%p)
  generalize lims (leAt xs 0 32%57896044618658097711785492504343953926634992332820282019728792003956564819968%p)=res at *
  clear hv
  go_enter Tryd.func60,Tryd.ntmps60
  go_wp2_with fail
  go_loopw [4] (fun i wr=>∃ k:Nat,k≤16∧i=.int .i64 k∧Ext w wr∧wr.heap[w.heap.size]? = some (.cells (ints .u8 xs) 23) ∧
    (∃ b,b.size=16∧wr.heap[w.heap.size+1]? = some (.cells b 58))∧wr.heap[w.heap.size+1+1]? = some (.cells (ints .i64 (mix 32 (Qb9 xs) (fun _=>0) k)) 116)) (fun i _=>16-(intOf i).toNat)
  case atStart=>exact ⟨0,by omega,rfl,ext3 _ _ _ _,QcC _ _ _ _,⟨_,rfl,QbS _ _ _ _⟩,Qbw _ _ _ _⟩
  case round =>
    obtain ⟨k,hk,rfl,he,hA,⟨b,hbs,hB⟩,hC⟩:=hrel
    by_cases hlt:k<16
    · have hX:(ints .u8 xs)[2*k]? = some (.int .u8 (nth xs (2*k))):=Qas _ _ _ (by omega)
      have hY:(ints .u8 xs)[2*k+1]? = some (.int .u8 (nth xs (2*k+1))):=Qas _ _ _ (by omega)
      have hZ:(ints .i64 (mix 32 (Qb9 xs) (fun _=>0) k))[k]? = some (.int .i64 0):=by rw [Qas _ _ _ (by rw [mix_len]; omega),mix_nth _ _ _ _ _ (by omega),if_neg (by omega)]
      have hS:(ints .i64 (mix 32 (Qb9 xs) (fun _=>0) k)).setIfInBounds k (.int .i64 (Qb9 xs k))=ints .i64 (mix 32 (Qb9 xs) (fun _=>0) (k+1)):=by
        rw [Qbz,←mix_set _ _ _ _ (by omega)]
      have b1:=hb.nth (2*k)
      have b2:=hb.nth (2*k+1)
      have eP:Qb9 xs k=nth xs (2*k)+256*nth xs (2*k+1):=rfl
      generalize hlx:nth xs (2*k)=lx at *
      generalize hly:nth xs (2*k+1)=ly at *
      rw [eP] at hS
      clear eP
      have q1:IntKind.i64.wrap (2*(k:Int))=2*(k:Int):=IntWalk.i64_in _ (by omega)
      have q2:(2*(k:Int)).toNat=2*k:=by omega
      have q3:(0:Int)≤2*(k:Int):=by omega
      have q4:2*(k:Int)<32:=by omega
      have q5:IntKind.i64.wrap (2*(k:Int)+1)=2*(k:Int)+1:=IntWalk.i64_in _ (by omega)
      have q6:(2*(k:Int)+1).toNat=2*k+1:=by omega
      have q7:(0:Int)≤2*(k:Int)+1:=by omega
      have q8:2*(k:Int)+1<32:=by omega
      have q9:(k:Int)<32:=by omega
      have w1:IntKind.i64.wrap lx=lx:=IntWalk.i64_in _ (by omega)
      have w2:IntKind.i64.wrap ly=ly:=IntWalk.i64_in _ (by omega)
      have w3:IntKind.i64.wrap (256*ly)=256*ly:=IntWalk.i64_in _ (by omega)
      have w4:IntKind.i64.wrap (lx+256*ly)=lx+256*ly:=IntWalk.i64_in _ (by omega)
      have HX:Hid (∀ W,Ext wr.drew W→W.cell? ⟨w.heap.size,2*k,none⟩=some (.int .u8 lx)):=Lib.hid fun W hR=>QaE (Qaa (Qaa hA (Qai _)) hR) hX
      have HY:Hid (∀ W,Ext wr.drew W→W.cell? ⟨w.heap.size,2*k+1,none⟩=some (.int .u8 ly)):=Lib.hid fun W hR=>QaE (Qaa (Qaa hA (Qai _)) hR) hY
      go_wp2
      refine Qa8 Ext 15 30 [⟨none,[(4,none)]⟩,⟨none,[(4,none)]⟩,⟨none,[(10,some 1)]⟩,⟨none,[(1,none),(11,some 2)]⟩,⟨none,[(12,some 3)]⟩,⟨none,[(13,some 4)]⟩,⟨none,[(4,none)]⟩,⟨none,[(15,some 6)]⟩,⟨none,[(16,some 7)]⟩,⟨none,[(1,none),(17,some 8)]⟩,⟨none,[(18,some 9)]⟩,⟨none,[(19,some 10)]⟩,⟨none,[(20,some 11)]⟩,⟨none,[(14,some 5),(21,some 12)]⟩,⟨none,[(3,none),(9,some 0)]⟩] kj kj rfl Ext.refl Ext.trans (fun F r0 hr hF=>?_)
      have f1:r0 1=.pointer (some ⟨w.heap.size,0,none⟩):=by rw [hr]; rfl
      have f3:r0 3=.pointer (some ⟨w.heap.size+1+1,0,none⟩):=by rw [hr]; rfl
      have f4:r0 4=.int .i64 k:=by rw [hr]; rfl
      clear hr
      simp only [List.take_succ_cons,List.take_zero]
      repeat
        (try simp only [List.cons_append,List.nil_append]
         apply Qay
         (intro ρ W hR hh
          have hcx:=HX.out W hR
          have hcy:=HY.out W hR
          simp only [Qca,List.getD_cons_zero,List.getD_cons_succ,f1,f3,f4] at hh
          simp only [guarded,QaU]
          go_simp
          first
            | exact ⟨Ext.refl _,rfl⟩
            | exact Ext.refl _))
      simp only [List.cons_append,List.nil_append]
      refine hF.out fun W hRW=>?_
      simp only [List.take_succ_cons,List.take_zero,List.drop_succ_cons,List.drop_zero,fin,forall_eq,Act.put,List.setIfInBounds_toArray,List.set_cons_zero,List.set_cons_succ]
      clear HX HY hF f1 f3 f4
      have hE:=Ext.trans (Qai wr) hRW
      have hA':=Qaa hA hE
      have hB':=Qaa hB hE
      have hC':=Qaa hC hE
      have hcx:=QaE hC' hZ
      have hfx:=Qbm hC' k
      go_wp2
      exact ⟨⟨k+1,by omega,by go_num,Qcl (Ext.trans he hE) (by omega) _ _,(Qa6 _ _ (by omega)).trans hA',⟨b,hbs,(Qa6 _ _ (by omega)).trans hB'⟩,(Qck _ _ hC').trans (by rw [hS])⟩,by simp [intOf]; omega⟩
    · obtain rfl:k=16:=by omega
      have hX:(ints .i64 (mix 32 (Qb9 xs) (fun _=>0) 16))[15]? = some (.int .i64 (Qb9 xs 15)):=by rw [Qas _ _ _ (by rw [mix_len]; decide),mix_nth _ _ _ _ _ (by decide),if_pos (by decide)]
      have hS:(ints .i64 (mix 32 (Qb9 xs) (fun _=>0) 16)).setIfInBounds 15 (.int .i64 (Qb9 xs 15%32768))=ints .i64 (mix 32 (Qcu xs) (fun _=>0) 16):=by rw [Qbz,Qpq]
      have b1:=QcS xs hb 15
      generalize hlx:Qb9 xs 15=lx at *
      have w3:lx.tmod 32768=lx%32768:=Int.tmod_eq_emod_of_nonneg (by omega)
      have w4:IntKind.i64.wrap (lx%32768)=lx%32768:=IntWalk.i64_in _ (by omega)
      have hcx:=QaE hC hX
      have hfx:=Qbm hC 15
      have hC2:=Qck 15 (.int .i64 (lx%32768)) hC
      rw [hS] at hC2
      have hB2:=(Qa6 (W:=wr) 15 (.int .i64 (lx%32768)) (show w.heap.size+1≠w.heap.size+1+1 by omega)).trans hB
      have he2:=Qcl he (show w.heap.size≤w.heap.size+1+1 by omega) 15 (.int .i64 (lx%32768))
      generalize hwz:wr.setCell ⟨w.heap.size+1+1,15,none⟩ (.int .i64 (lx%32768))=wz at *
      go_wp2_with first
        | (go_at_call 86
           (with_reducible refine (HC.out _).mono ?_)
           rintro e w' ⟨rfl,hw⟩
           have hB':=Qaa hB2 hw)
        | (with_reducible show wpList _ _ _ ((⟨_,.load 116 _,_,_,_,_⟩:Oper)::_) _ _
           refine wpList_load_row rfl 116 _ rfl (w.heap.size+1+1) rfl 116 _ (0,0) _ hC2 Tryd.underlying116 rfl (Qle _ (mix_len _ _ _ _)) ?_)
        | (with_reducible show wpList _ _ _ ((⟨_,.store 58 _ _,_,_,_,_⟩:Oper)::_) _ _
           refine wpList_store_row rfl 58 _ _ rfl (w.heap.size+1) _ rfl rfl 58 _ hB' (QbR _ hrl) (by rw [hbs,Qae,hrl]) (ints_one _ _) ?_)
      exact bodyPost_ret (results_cell_row (p:=2) rfl _ _ (w.heap.size+1) 58 _ (0,0) _ rfl (setRow_heap _ _ _ _ _ _ hB') Tryd.underlying58 rfl (QbR _ hrl)) rfl ⟨rfl,QaO (Ext.trans he2 hw) (by omega) _⟩
end Go.Proofs.YtdoadngmgmdlbaaDoor.Field
end
section
namespace Go.Proofs.YtdoadngmgmdlbaaDoor.Field
open Go Go.RowKit
open Rely
theorem Qk9 (xs : List Int) (i:Nat) (d:Int) (hi:i<xs.length):∀ n,pvf (nth (xs.set i (nth xs i+d))) n=pvf (nth xs) n+(if i<n then d*65536^i else 0)
  | 0=>by simp [pvf]
  | n+1=>by
    rw [pvf,pvf,Qk9 xs i d hi n]
    by_cases h:i=n
    · subst h
      rw [Qgh _ _ _ hi,if_neg (by omega),if_pos (by omega),Int.add_mul]
      omega
    · rw [nth_set_ne _ _ _ _ h]
      by_cases h2:i<n
      · rw [if_pos h2,if_pos (by omega)]; omega
      · rw [if_neg h2,if_neg (by omega)]; omega
theorem QhD (x y:Int) (i j:Nat):0≤limb x i*limb y j∧limb x i*limb y j≤4294836225:=by
  have h1:=QaV x i
  have h2:=QaV y j
  refine ⟨Int.mul_nonneg h1.1 h2.1,?_⟩
  have:=Int.mul_le_mul (show limb x i≤65535 by omega) (show limb y j≤65535 by omega) h2.1 (by decide)
  omega
def Qfe (x y:Int) (i j:Nat) (xs:List Int):Prop :=
  xs.length=32∧(∀ m,m<32→0≤nth xs m∧nth xs m≤4294836225*(16*(i:Int)+j))∧pvf (nth xs) 32=pvf (limb x) i*pvf (limb y) 16+limb x i*65536^i*pvf (limb y) j
theorem QkS (n m:Nat):nth (List.replicate n (0:Int)) m=0:=by
  unfold nth
  rw [List.getD_eq_getElem?_getD,List.getElem?_replicate]
  split <;> rfl
theorem Qh7 (x y:Int):Qfe x y 0 0 (List.replicate 32 0):=by
  refine ⟨rfl,fun m hm=>?_,?_⟩
  · rw [QkS]; simp
  · have:pvf (nth (List.replicate 32 (0:Int))) 32=0:=by
      rw [QcG (h:=fun _=>0) (n:=32) (fun i hi=>QkS 32 i) 32 (qR _)]
      exact QgA 32
    rw [this]; simp [pvf]
theorem Qiz (x y:Int) (i:Nat) (xs:List Int) (h:Qfe x y i 16 xs):Qfe x y (i+1) 0 xs:=by
  refine ⟨h.1,fun m hm=>?_,?_⟩
  · have:=h.2.1 m hm
    omega
  · rw [h.2.2]
    show _=(pvf (limb x) i+limb x i*65536^i)*pvf (limb y) 16+limb x (i+1)*65536^(i+1)*0
    rw [Int.add_mul,Int.mul_zero,Int.add_zero]
theorem Qiy (x y:Int) (i j:Nat) (xs:List Int) (hi:i<16) (hj:j<16) (h:Qfe x y i j xs):Qfe x y i (j+1) (xs.set (i+j) (nth xs (i+j)+limb x i*limb y j)):=by
  have hp:=QhD x y i j
  refine ⟨by simp [h.1],fun m hm=>?_,?_⟩
  · have hm':=h.2.1 m hm
    by_cases e:i+j=m
    · rw [←e] at hm' ⊢
      rw [Qgh _ _ _ (by rw [h.1]; omega)]
      omega
    · rw [nth_set_ne _ _ _ _ e]
      omega
  · rw [Qk9 _ _ _ (by rw [h.1]; omega),h.2.2,if_pos (by omega),Int.pow_add]
    show _=pvf (limb x) i*pvf (limb y) 16+limb x i*65536^i*(pvf (limb y) j+limb y j*65536^j)
    generalize pvf (limb x) i*pvf (limb y) 16=a
    generalize limb x i=b
    generalize limb y j=c
    generalize pvf (limb y) j=d
    generalize (65536:Int)^i=e
    generalize (65536:Int)^j=f
    grind
set_option maxHeartbeats 1000000 in
theorem lMul (x y:Int) (hx:0≤x∧x<big) (hy:0≤y∧y<big) (w:World):Calls Tryd.prog 58 #[lnum x,lnum y] w (Ret w (lnum (x*y%p))):=by
  have HC:Hid (∀ xs,Qfe x y 16 0 xs→∀ w,Calls Tryd.prog 86 #[.agg (ints .i64 xs)] w (Ret w (lnum (x*y%p)))):=Lib.hid fun xs h w=>by
    have hv:pvf (nth xs) 32=x*y:=by
      rw [h.2.2,Qfn x hx,Qfn y hy]
      simp [pvf]
    have h1:0≤x*y:=Int.mul_nonneg hx.1 hy.1
    have h2:x*y<big*big:=by
      have a1:x*y≤x*big:=Int.mul_le_mul_of_nonneg_left (Int.le_of_lt hy.2) hx.1
      have a2:x*big<big*big:=Int.mul_lt_mul_of_pos_right hx.2 (by decide)
      exact Int.lt_of_le_of_lt a1 a2
    have:=small xs h.1 (fun i hi=>by
      have:=h.2.1 i hi
      unfold M
      omega) (by rw [hv,Qow]; exact ⟨h1,h2⟩) w
    rw [hv] at this
    exact this
  unfold lnum at HC ⊢
  have hrl:=QaM (x*y%p)
  generalize lims (x*y%p)=res at *
  go_enter Tryd.func58,Tryd.ntmps58
  go_wp2_with fail
  go_loopw [6] (fun i wr=>∃ k:Nat,k≤16∧i=.int .i64 k∧Ext w wr∧wr.heap[w.heap.size]? = some (.cells (ints .i64 (lims x)) 58)∧wr.heap[w.heap.size+1]? = some (.cells (ints .i64 (lims y)) 58) ∧
    (∃ b,b.size=16∧wr.heap[w.heap.size+1+1]? = some (.cells b 58))∧∃ xs,Qfe x y k 0 xs∧wr.heap[w.heap.size+1+1+1]? = some (.cells (ints .i64 xs) 116)) (fun i _=>16-(intOf i).toNat)
  case atStart=>exact ⟨0,by omega,rfl,ext4 _ _ _ _ _,Qhd _ _ _ _ _,Qhc _ _ _ _ _,⟨_,rfl,Qhb _ _ _ _ _⟩,_,Qh7 x y,Qha _ _ _ _ _⟩
  case round =>
    obtain ⟨i,hi,rfl,he,hA,hB,⟨b,hbs,hC⟩,xs,hM,hD⟩:=hrel
    by_cases hlt:i<16
    · have HD:=Lib.hid hM
      clear hM
      go_wp2
      go_loopw [7] (fun j wq=>∃ k:Nat,k≤16∧j=.int .i64 k∧Ext w wq∧wq.heap[w.heap.size]? = some (.cells (ints .i64 (lims x)) 58)∧wq.heap[w.heap.size+1]? = some (.cells (ints .i64 (lims y)) 58) ∧
        wq.heap[w.heap.size+1+1]? = some (.cells b 58)∧∃ xs,Qfe x y i k xs∧wq.heap[w.heap.size+1+1+1]? = some (.cells (ints .i64 xs) 116)) (fun j _=>16-(intOf j).toNat)
      case atStart=>exact ⟨0,by omega,rfl,he,hA,hB,hC,xs,HD.out,hD⟩
      case round =>
        clear hA hB hC hD he HD
        obtain ⟨k,hk,rfl,he,hA,hB,hC,xs,hM,hD⟩:=hrel
        by_cases hk16:k<16
        · have hX:(ints .i64 (lims x))[i]? = some (.int .i64 (limb x i)):=by rw [Qas _ _ _ (by rw [QaM]; exact hlt),QcP _ _ hlt]
          have hY:(ints .i64 (lims y))[k]? = some (.int .i64 (limb y k)):=by rw [Qas _ _ _ (by rw [QaM]; exact hk16),QcP _ _ hk16]
          have hZ:(ints .i64 xs)[i+k]? = some (.int .i64 (nth xs (i+k))):=Qas _ _ _ (by rw [hM.1]; omega)
          have hN:=Lib.hid (Qiy x y i k xs hlt hk16 hM)
          have hS:(ints .i64 xs).setIfInBounds (i+k) (.int .i64 (nth xs (i+k)+limb x i*limb y k))=ints .i64 (xs.set (i+k) (nth xs (i+k)+limb x i*limb y k)):=by rw [Qbz]
          have b1:=hM.2.1 (i+k) (by omega)
          have b2:=QhD x y i k
          clear hM
          generalize hzz:nth xs (i+k)=zz at *
          generalize hlx:limb x i=lx at *
          generalize hly:limb y k=ly at *
          have w1:IntKind.i64.wrap (lx*ly)=lx*ly:=IntWalk.i64_in _ (by omega)
          have w2:IntKind.i64.wrap (zz+lx*ly)=zz+lx*ly:=IntWalk.i64_in _ (by omega)
          have q1:IntKind.i64.wrap ((i:Int)+(k:Int))=(i:Int)+(k:Int):=IntWalk.i64_in _ (by omega)
          have q2:((i:Int)+(k:Int)).toNat=i+k:=by omega
          have q3:(0:Int)≤(i:Int)+(k:Int):=by omega
          have q4:(i:Int)+(k:Int)<32:=by omega
          have q5:(i:Int)<16:=by omega
          have HX:Hid (∀ W,Ext wr.drew W→W.cell? ⟨w.heap.size,i,none⟩=some (.int .i64 lx)):=Lib.hid fun W hR=>QaE (Qaa (Qaa hA (Qai _)) hR) hX
          have HY:Hid (∀ W,Ext wr.drew W→W.cell? ⟨w.heap.size+1,k,none⟩=some (.int .i64 ly)):=Lib.hid fun W hR=>QaE (Qaa (Qaa hB (Qai _)) hR) hY
          have HZ:Hid (∀ W,Ext wr.drew W→W.cell? ⟨w.heap.size+1+1+1,i+k,none⟩=some (.int .i64 zz)):=Lib.hid fun W hR=>QaE (Qaa (Qaa hD (Qai _)) hR) hZ
          clear b1 b2
          go_wp2
          refine Qa8 Ext 17 35 [⟨none,[(6,none)]⟩,⟨none,[(7,none)]⟩,⟨none,[(16,some 0),(17,some 1)]⟩,⟨none,[(6,none)]⟩,⟨none,[(7,none)]⟩,⟨none,[(19,some 3),(20,some 4)]⟩,⟨none,[(5,none),(21,some 5)]⟩,⟨none,[(22,some 6)]⟩,⟨none,[(6,none)]⟩,⟨none,[(2,none),(24,some 8)]⟩,⟨none,[(25,some 9)]⟩,⟨none,[(7,none)]⟩,⟨none,[(3,none),(27,some 11)]⟩,⟨none,[(28,some 12)]⟩,⟨none,[(26,some 10),(29,some 13)]⟩,⟨none,[(23,some 7),(30,some 14)]⟩,⟨none,[(5,none),(18,some 2)]⟩] kj kj rfl Ext.refl Ext.trans (fun F r0 hr hF=>?_)
          have f2:r0 2=.pointer (some ⟨w.heap.size,0,none⟩):=by rw [hr]; rfl
          have f3:r0 3=.pointer (some ⟨w.heap.size+1,0,none⟩):=by rw [hr]; rfl
          have f5:r0 5=.pointer (some ⟨w.heap.size+1+1+1,0,none⟩):=by rw [hr]; rfl
          have f6:r0 6=.int .i64 i:=by rw [hr]; rfl
          have f7:r0 7=.int .i64 k:=by rw [hr]; rfl
          clear hr
          simp only [List.take_succ_cons,List.take_zero]
          repeat
            (try simp only [List.cons_append,List.nil_append]
             apply Qay
             (intro ρ W hR hh
              have hcx:=HX.out W hR
              have hcy:=HY.out W hR
              have hcz:=HZ.out W hR
              simp only [Qca,List.getD_cons_zero,List.getD_cons_succ,f2,f3,f5,f6,f7] at hh
              simp only [guarded,QaU]
              go_simp
              first
                | exact ⟨Ext.refl _,rfl⟩
                | exact Ext.refl _))
          simp only [List.cons_append,List.nil_append]
          refine hF.out fun W hRW=>?_
          simp only [List.take_succ_cons,List.take_zero,List.drop_succ_cons,List.drop_zero,fin,forall_eq,Act.put,List.setIfInBounds_toArray,List.set_cons_zero,List.set_cons_succ]
          clear HX HY HZ hF f2 f3 f5 f6 f7
          have hE:=Ext.trans (Qai wr) hRW
          have hA':=Qaa hA hE
          have hB':=Qaa hB hE
          have hC':=Qaa hC hE
          have hD':=Qaa hD hE
          have hcx:=QaE hD' hZ
          have hfx:=Qbm hD' (i+k)
          go_wp2
          exact ⟨⟨k+1,by omega,by go_num,Qcl (Ext.trans he hE) (by omega) _ _,(Qa6 _ _ (by omega)).trans hA',(Qa6 _ _ (by omega)).trans hB',(Qa6 _ _ (by omega)).trans hC',_,hN.out,(Qck _ _ hD').trans (by rw [hS])⟩,by simp [intOf]; omega⟩
        · obtain rfl:k=16:=by omega
          have hN:=Lib.hid (Qiz x y i xs hM)
          clear hM
          go_wp2
          exact ⟨⟨i+1,by omega,by go_num,he,hA,hB,⟨b,hbs,hC⟩,xs,hN.out,hD⟩,by simp [intOf]; omega⟩
    · obtain rfl:i=16:=by omega
      have HC':=Lib.hid (HC.out xs hM)
      have hi:=Qle xs hM.1
      clear hM HC
      go_wp2_with first
        | (go_at_call 86
           (with_reducible refine (HC'.out _).mono ?_)
           rintro e w' ⟨rfl,hw⟩
           have hC':=Qaa hC hw)
        | (with_reducible show wpList _ _ _ ((⟨_,.load 116 _,_,_,_,_⟩:Oper)::_) _ _
           refine wpList_load_row rfl 116 _ rfl (w.heap.size+1+1+1) rfl 116 _ (0,0) _ hD Tryd.underlying116 rfl hi ?_)
        | (with_reducible show wpList _ _ _ ((⟨_,.store 58 _ _,_,_,_,_⟩:Oper)::_) _ _
           refine wpList_store_row rfl 58 _ _ rfl (w.heap.size+1+1) _ rfl rfl 58 _ hC' (QbR _ hrl) (by rw [hbs,Qae,hrl]) (ints_one _ _) ?_)
      exact bodyPost_ret (results_cell_row (p:=4) rfl _ _ (w.heap.size+1+1) 58 _ (0,0) _ rfl (setRow_heap _ _ _ _ _ _ hC') Tryd.underlying58 rfl (QbR _ hrl)) rfl ⟨rfl,QaO (Ext.trans he hw) (by omega) _⟩
end Go.Proofs.YtdoadngmgmdlbaaDoor.Field
end
section
namespace Go.Proofs.YtdoadngmgmdlbaaDoor.Field
open Go Go.RowKit
open Rely
theorem Qfu (w : World) (a b:Obj):((w.alloc a).alloc b).heap[w.heap.size]? = some a:=by
  rw [Below.heap_alloc _ _ _ (by simp)]; exact heap_alloc_new _ _
theorem Qft (w : World) (a b:Obj):((w.alloc a).alloc b).heap[w.heap.size+1]? = some b:=by
  have:=heap_alloc_new (w.alloc a) b
  simpa using this
theorem QmH : lims 1=1::List.replicate 15 0:=by decide +kernel
end Go.Proofs.YtdoadngmgmdlbaaDoor.Field
end
section
namespace Go.Proofs.YtdoadngmgmdlbaaDoor.Field
open Go Go.RowKit
open Rely
def QfE (xs : List Int):Int:=leAt xs 0 32%57896044618658097711785492504343953926634992332820282019728792003956564819968%p
theorem QjV (xs : List Int):isN (QfE xs):=Qa0 _
theorem Qdw {n : Int} (h:isN n):0≤n∧n<big:=⟨h.1,Int.lt_trans h.2 (by decide)⟩
theorem QbA {o : Oper} {ρ:Tmp→Value} {W:World} (x:Operand) (ho:o.op=.load 49 x) (g:Nat) (n:Int) (hx:Rely.look ρ x=Value.pointer (some ⟨g,0,none⟩)) (hg:W.heap[g]? = some (.cells (numA n) 49)) :
    QaU Tryd.prog Ext o ρ W (fun v _=>v=num n) :=
  Qbi 49 x ho g hx 49 (numA n) (0,0) _ hg Tryd.underlying49 rfl QaS
theorem QnC (a b:Int) (h:a=b) (ha:isN a) (w:World):Calls Tryd.prog 94 #[num a,num b] w (Ret w (.bool true)):=by
  subst h
  have:=equal a a ha ha w
  simpa using this
theorem Qja (a b:Int) (h:a≠b) (ha:isN a) (hb:isN b) (w:World):Calls Tryd.prog 94 #[num a,num b] w (Ret w (.bool false)):=by
  have:=equal a b ha hb w
  rw [show (a==b)=false by simpa using h] at this
  exact this
def QnP (t : TypeId) (m:Nat) (b:Nat) (v:Value) (W:World):Prop:=∃ g,v=.pointer (some ⟨g,0,none⟩)∧b≤g∧g<W.heap.size∧∃ cs:Array Value,cs.size=m∧W.heap[g]? = some (.cells cs t)
theorem QgU (t : TypeId) (m:Nat) (b:Nat):QbL Ext (QnP t m b):=fun v W W' hR ⟨g,h1,h2,h3,cs,h4,h5⟩=>⟨g,h1,h2,qL h3 hR.size,cs,h4,(hR.block g h3).trans h5⟩
theorem bytesOf_len (n : Int):(Qao n).length=32:=by simp [Qao,part]
end Go.Proofs.YtdoadngmgmdlbaaDoor.Field
end
section
namespace Go.Proofs.YtdoadngmgmdlbaaDoor.Field
open Go Go.RowKit Go.Shelf
open Rely
attribute [local go_sem] Oper.semAt_some
def QcR (es : List Int) (i:Nat):Int:=nth es (i/8)/2^(i%8)%2
def QbX (es : List Int):List Int:=(List.range 256).map fun j=>QcR es (255-j)
theorem Qgs (es : List Int):(QbX es).length=256:=by simp [QbX]
theorem Qi9 (es : List Int) (j:Nat) (hj:j<256):(QbX es).take (256-j)=(QbX es).take (256-(j+1))++[QcR es j]:=by
  have e:256-j=(256-(j+1))+1:=by omega
  rw [e,List.take_add_one]
  congr 1
  have h:256-(j+1)<256:=by omega
  simp only [QbX,List.getElem?_map,List.getElem?_range h,Option.map_some,Option.toList_some]
  rw [show 255-(256-(j+1))=j by omega]
theorem QfQ (es : List Int) (i:Nat):0≤QcR es i∧QcR es i<2:=by unfold QcR; omega
def Qe0 (a o b:Int):Int:=if b=0 then o*o%p else o*o%p*a%p
def Qbu (a : Int) (bs:List Int):Int:=bs.foldl (Qe0 a) 1
theorem Qdu (a : Int) (bs:List Int) (b:Int):Qbu a (bs++[b])=Qe0 a (Qbu a bs) b:=by simp [Qbu]
theorem QjK (a o b:Int):isN (Qe0 a o b):=by
  unfold Qe0
  split <;> exact Qa0 _
theorem QkP : isN 1:=by unfold isN p; decide
theorem Qdk (a : Int):∀ bs:List Int,isN (Qbu a bs):=fun bs=>by
  rcases List.eq_nil_or_concat bs with h | ⟨l,b,h⟩
  · subst h; exact QkP
  · subst h; rw [List.concat_eq_append,Qdu]; exact QjK _ _ _
def cnt (bs : List Int):Nat:=bs.foldl (fun n b=>2*n+(if b=0 then 0 else 1)) 0
theorem Qni (bs : List Int) (b:Int):cnt (bs++[b])=2*cnt bs+(if b=0 then 0 else 1):=by simp [cnt]
theorem QiR (a : Int):∀ bs:List Int,Qbu a bs=a^cnt bs%p:=fun bs=>by
  have key:∀ r:List Int,Qbu a r.reverse=a^cnt r.reverse%p:=by
    intro r
    induction r with
    | nil =>
      show (1:Int)=a^0%p
      rw [Int.pow_zero]
      decide
    | cons b r ih =>
      rw [List.reverse_cons,Qdu,Qni,ih]
      unfold Qe0
      have sq:a^cnt r.reverse%p*(a^cnt r.reverse%p)%p=a^(2*cnt r.reverse)%p:=by
        rw [←Int.mul_emod,←Int.pow_add,Nat.two_mul]
      by_cases hb:b=0
      · rw [if_pos hb,if_pos hb,sq,Nat.add_zero]
      · rw [if_neg hb,if_neg hb,sq,Int.pow_succ]
        generalize a^(2*cnt r.reverse)=c
        rw [Int.mul_emod (c%p),Int.emod_emod,←Int.mul_emod]
  have:=key bs.reverse
  rwa [List.reverse_reverse] at this
theorem QiC (v : Int) (h:0≤v∧v≤255):bits .and .i64 v 1=v%2:=by
  obtain ⟨n,rfl⟩:=Int.eq_ofNat_of_zero_le h.1
  have key:∀ n:Nat,n<256→bits .and .i64 (n:Int) 1=(n:Int)%2:=by decide +kernel
  exact key n (by omega)
set_option maxHeartbeats 2000000 in
theorem Qkb (m : Nat) (hm:1≤m) (kb n₀:Nat) (es:List Int) (hel:es.length=32) (hb:Qal es) (w:World) (hkb:w.heap[kb]? = some (.cells (ints .u8 es) 23)) (hk:kb<n₀) (hn₀:n₀≤w.heap.size) :
    SeqStopsK Fence.wide m Tryd.prog 82 #[.pointer (some ⟨kb,0,none⟩)] (fun x:Int=>#[Value.int .i64 x]) (Below n₀) (fun ys=>ys=QbX es) (fun pre=>pre <+: QbX es) 256 w:=fun l J Jx W hW hJ hJx hY h0=>by
  refine callsIn_of_wp Tryd.func82 rfl trivial ?_ rfl
  simp only [Tryd.ntmps82,List.size_toArray,List.length_cons,List.length_nil,Nat.reduceAdd,Nat.reduceSub,Array.replicate_succ,Array.replicate_zero,List.push_toArray,List.append_toArray,List.nil_append,List.cons_append]
  have hkW:W.heap[kb]? = some (.cells (ints .u8 es) 23):=(hW.block kb (Qa3 hkb)).trans hkb
  gi_wp2
  gi_loopw [3] (fun i wr=>∃ k:Nat,k≤256∧i=.int .i64 ((k:Int)-1)∧J ((QbX es).take (256-k)) wr∧Below n₀ W wr) (fun i _=>(intOf i+1).toNat)
  case atStart=>exact ⟨256,by omega,rfl,by simpa using h0,Below.refl _ _⟩
  case round =>
    obtain ⟨k,hk256,rfl,hJs,hB⟩:=hrel
    rcases k with _ | j
    · gi_wp2
      go_end0
      exact ⟨⟨_,rfl⟩,.inl ⟨_,rfl,by rwa [List.take_of_length_le (by rw [Qgs]; omega)] at hJs⟩⟩
    · have hj:j<256:=by omega
      rw [show ((j+1:Nat):Int)-1=(j:Int) by omega]
      have hkw:wr.heap[kb]? = some (.cells (ints .u8 es) 23):=(hB.block kb hk).trans hkW
      have hX:(ints .u8 es)[j/8]? = some (.int .u8 (nth es (j/8))):=Qas _ _ _ (by omega)
      have hcx:=QaE hkw hX
      obtain ⟨fn,tmps,assign,body,hy,hR⟩:=hY _ (QcR es j) wr hJs (by rw [List.length_take,Qgs]; omega)
      have hT:=Lib.hid (Qi9 es j hj)
      have b1:=hb.nth (j/8)
      rw [show QcR es j=nth es (j/8)/2^(j%8)%2 from rfl] at hy
      generalize QcR es j=bt at *
      generalize nth es (j/8)=v at *
      have q0:(0:Int)≤(j:Int):=by omega
      have q1:(j:Int)/8<32:=by omega
      have q2:IntKind.i64.wrap ((j:Int)/8)=(j:Int)/8:=IntWalk.i64_in _ (by omega)
      have qm:(j:Int).tmod 8=(j:Int)%8:=Int.tmod_eq_emod_of_nonneg (by omega)
      have q3:IntKind.i64.wrap ((j:Int)%8)=(j:Int)%8:=IntWalk.i64_in _ (by omega)
      have q4:(0:Int)≤(j:Int)/8:=by omega
      have q5:((j:Int)/8).toNat=j/8:=by omega
      have q6:((j:Int)%8).toNat=j%8:=by omega
      have q7:(0:Int)≤(j:Int)%8:=by omega
      have q8:(j:Int)%8<8:=by omega
      have hp:(1:Int)≤2^(j%8):=by
        have:(0:Int)<2^(j%8):=Int.pow_pos (by decide)
        omega
      have d1:0≤v/2^(j%8):=Int.ediv_nonneg b1.1 (by omega)
      have d2:v/2^(j%8)≤v:=Int.ediv_le_self _ b1.1
      have w1:IntKind.i64.wrap (v/2^(j%8))=v/2^(j%8):=IntWalk.i64_in _ (by omega)
      have w2:=QiC (v/2^(j%8)) (by omega)
      gi_wp2
      refine hR.mono ?_
      rintro e W3 (⟨rfl,hJ3,hk3⟩ | ⟨rfl,hJx3⟩)
      · gi_wp2
        go_roundw
        case rel=>exact ⟨j,by omega,rfl,by rw [hT.out]; exact hJ3,hB.trans hk3⟩
        case measure=>simp [intOf]
      · gi_wp2
        refine bodyPost_ret (results_none rfl _ _ _) rfl ?_
        exact ⟨⟨_,rfl⟩,.inr ⟨_,by rw [←hT.out]; exact List.take_prefix _ _,hJx3⟩⟩
end Go.Proofs.YtdoadngmgmdlbaaDoor.Field
end
section
namespace Go.Proofs.YtdoadngmgmdlbaaDoor.Field
open Go Go.RowKit Go.Shelf
open Rely
attribute [local go_sem] Oper.semAt_some
def QeJ (es : List Int):Fact:=fun v W=>∃ kb,v=.func (.func 82) #[] #[.pointer (some ⟨kb,0,none⟩)]∧W.heap[kb]? = some (.cells (ints .u8 es) 23)
theorem QdH (es : List Int):QbL Ext (QeJ es):=fun v W W' hR ⟨kb,h1,h2⟩=>⟨kb,h1,Qaa h2 hR⟩
theorem QfO (es : List Int) (w:World):Calls Tryd.prog 46 #[.agg (ints .u8 es)] w (QfT w (QeJ es)):=by
  have hmf:∀ (fn:Fn) (first cap:Array Value) (w:World),(Instr.makeFunc fn first cap).run Tryd.prog w=.ok (.func fn first cap) w:=fun _ _ _ _=>rfl
  go_enter Tryd.func46,Tryd.ntmps46
  go_wp2_with fail
  exact bodyPost_ret (results_tmp rfl _ _ _) rfl ⟨_,rfl,QaJ _ _,w.heap.size,rfl,heap_alloc_new _ _⟩
set_option maxRecDepth 100000 in
theorem power (a : Int) (ha:isN a) (es:List Int) (hel:es.length=32) (hb:Qal es) (v:Value) (w:World) (hv:QeJ es v w) :
    Calls Tryd.prog 92 #[num a,v] w (Ret w (num (Qbu a (QbX es)))):=by
  obtain ⟨kb,rfl,hkb⟩:=hv
  have HS:Hid (∀ w,Calls Tryd.prog 67 #[.int .i64 1] w (Ret w (num 1))):=Lib.hid fun w=>by have:=Qf0 1 (by decide) w; rw [show (1:Int)%p=1 by decide] at this; exact this
  have hnf:∀ W,(binOp .eql 80 (.func (.func 82) #[] #[.pointer (some ⟨kb,0,none⟩)]) Value.nilFunc).run Tryd.prog W=.ok (.bool false) W:=fun W=>kj
  rw [show num a=.agg (numA a) from rfl]
  refine (callsIn_wide (n:=3)).1 ?_
  refine callsIn_of_wp_marks Tryd.func92 rfl trivial ?_ rfl
  simp only [Tryd.ntmps92,List.size_toArray,List.length_cons,List.length_nil,Nat.reduceAdd,Nat.reduceSub,Array.replicate_succ,Array.replicate_zero,List.push_toArray,List.append_toArray,List.nil_append,List.cons_append]
  gi_wp2_with first
    | (refine ⟨trivial,?_⟩
       gi_at_call 67
       refine (callsIn_wide.2 (HS.out _)).mono ?_
       rintro e w' ⟨rfl,hw⟩)
    | (with_reducible show wpListIn _ _ _ _ _ ((⟨_,.store 49 _ _,_,_,_,_⟩:Oper)::_) _ _
       refine Qb5 rfl 49 _ _ rfl w'.heap.size (numA 1) rfl rfl 49 _ (heap_alloc_new _ _) QaS rfl (Qb3 _) ?_)
  have hO:((w'.alloc (.cells #[.int .u64 0,.int .u64 0,.int .u64 0,.int .u64 0] 49)).setRow w'.heap.size (numA 1)).heap[w'.heap.size]? = some (.cells (numA 1) 49):=setRow_heap _ _ _ _ _ _ (heap_alloc_new _ _)
  have hq:w.heap.size+2≤w'.heap.size:=by have:=hw.size; simpa using this
  have he1:Ext w w':=Ext.trans (Ext.trans (QaJ _ _) (QaJ _ _)) hw
  have hA1:w'.heap[w.heap.size]? = some (.cells (numA a) 49):=Qaa (by rw [Below.heap_alloc _ _ _ (by simp)]; exact heap_alloc_new _ _) hw
  have hR1:∃ b:Array Value,b.size=4∧w'.heap[w.heap.size+1]? = some (.cells b 49):=⟨_,rfl,Qaa (by have:=heap_alloc_new (w.alloc (.cells (numA a) 49)) (.cells #[.int .u64 0,.int .u64 0,.int .u64 0,.int .u64 0] 49); simpa using this) hw⟩
  have he2:Ext w' ((w'.alloc (.cells #[.int .u64 0,.int .u64 0,.int .u64 0,.int .u64 0] 49)).setRow w'.heap.size (numA 1)):=QaO (QaJ _ _) (qR _) _
  have hA:=Qaa hA1 he2
  obtain ⟨b,hbs,hR1⟩:=hR1
  have hR:=Qaa hR1 he2
  have he:=Ext.trans he1 he2
  have hkV:=Qaa hkb he
  have hkl:=Qa3 hkb
  generalize (w'.alloc (.cells #[.int .u64 0,.int .u64 0,.int .u64 0,.int .u64 0] 49)).setRow w'.heap.size (numA 1)=V at *
  generalize w'.heap.size=gO at *
  clear hA1 hR1 he1 he2 hw HS hnf
  have hsz:=he.size
  refine wpIn_rangeFunc_ownF rfl (by omega) (gf:=82) (lb:=#[.pointer (some ⟨kb,0,none⟩)]) rfl trivial (enters_of Tryd.func82 kj rfl)
    (Qkb _ (by omega) kb w.heap.size es hel hb V hkV hkl hsz) belowK_t (belowK_b hsz) (Below.refl _ _) (fun _=>rfl)
    (fun pre W=>(W.heap[gO]? = some (.cells (numA (Qbu a pre)) 49)∧W.heap[w.heap.size]? = some (.cells (numA a) 49)∧W.heap[w.heap.size+1]? = some (.cells b 49))∧Below w.heap.size w W)
    (fun _ _ _=>False)
    (OwnFrom.and (Own.from (fun s A B row hs hg hr=>⟨Qb2 hs.1 hg hr,Qb2 hs.2.1 hg hr,Qb2 hs.2.2 hg hr⟩) _) (ownFrom_below (qR _) hsz))
    (fun _ _ _ _ _ hs _ _=>hs)
    ⟨⟨hO,hA,hR⟩,he⟩
    (fun x=>{ tmps:=#[.agg (numA a),.func (.func 82) #[] #[.pointer (some ⟨kb,0,none⟩)],.pointer (some ⟨w.heap.size,0,none⟩),undef,.pointer (some ⟨w.heap.size+1,0,none⟩),.pointer (some ⟨gO,0,none⟩),.int .i64 x,num 1,
      .func (.func 82) #[] #[.pointer (some ⟨kb,0,none⟩)],.bool false,undef,.func (.func 82) #[] #[.pointer (some ⟨kb,0,none⟩)],.int .i64 x,undef,undef,undef,undef,undef,undef,undef,undef,undef],defers:=[] }) ?assign ?body ?done ?stop
  case assign =>
    intro l x W K hK
    gi_wp2
    exact hK
  case body =>
    clear hO hA hR hkV hsz he
    rintro l pre x W ⟨⟨hO,hA,hR⟩,hB⟩ _
    have io:=Qdk a pre
    have HM:Hid (∀ w,Calls Tryd.prog 66 #[.agg (numA (Qbu a pre)),.agg (numA (Qbu a pre))] w (Ret w (.agg (numA (Qbu a pre*Qbu a pre%p))))):=Lib.hid (mul _ _ io io)
    have hsn:=Qdu a pre x
    have hlA:=Qa3 hA
    by_cases hx:x=0
    · have hval:Qbu a (pre++[x])=Qbu a pre*Qbu a pre%p:=by rw [hsn]; unfold Qe0; rw [if_pos hx]
      have HV:=Lib.hid hval
      clear hval hsn
      generalize hoo:Qbu a pre=o at *
      generalize ho2:o*o%p=o2 at *
      gi_wp2_with first
        | (refine ⟨trivial,?_⟩
           gi_at_call 66
           refine (CallsIn.inRound l (callsIn_wide.2 (HM.out _))).mono ?_
           rintro e w2 ⟨rfl,hw2⟩
           have hO2:=Qaa hO hw2)
        | (with_reducible show wpListIn _ _ _ _ _ ((⟨_,.load 49 _,_,_,_,_⟩:Oper)::_) _ _
           refine QbE rfl 49 _ rfl gO rfl 49 _ (0,0) _ hO Tryd.underlying49 rfl QaS ?_)
        | (with_reducible show wpListIn _ _ _ _ _ ((⟨_,.store 49 _ _,_,_,_,_⟩:Oper)::_) _ _
           refine Qb5 rfl 49 _ _ rfl gO (numA o2) rfl rfl 49 _ hO2 QaS rfl (Qb3 _) ?_)
      refine ⟨(QbQ hw2).trans (Qdc hO2 _),QdI (QeI hw2 (by omega)) (by omega) _,⟨?_,(setRow_other _ _ _ _ (by omega)).trans (Qaa hA hw2),(setRow_other _ _ _ _ (by omega)).trans (Qaa hR hw2)⟩,QdI (hB.trans (QeI hw2 (by omega))) (by omega) _⟩
      rw [HV.out]
      exact setRow_heap _ _ _ _ _ _ hO2
    · have hval:Qbu a (pre++[x])=Qbu a pre*Qbu a pre%p*a%p:=by rw [hsn]; unfold Qe0; rw [if_neg hx]
      have HV:=Lib.hid hval
      have HM2:Hid (∀ w,Calls Tryd.prog 66 #[.agg (numA (Qbu a pre*Qbu a pre%p)),.agg (numA a)] w (Ret w (.agg (numA (Qbu a pre*Qbu a pre%p*a%p))))):=Lib.hid (mul _ _ (Qa0 _) ha)
      clear hval hsn
      generalize hoo:Qbu a pre=o at *
      generalize ho2:o*o%p=o2 at *
      generalize ho3:o2*a%p=o3 at *
      gi_wp2_with first
        | (refine ⟨trivial,?_⟩
           gi_at_call 66
           refine (CallsIn.inRound l (callsIn_wide.2 (HM.out _))).mono ?_
           rintro e w2 ⟨rfl,hw2⟩
           clear HM
           have hO2:=Qaa hO hw2
           clear hO)
        | (refine ⟨trivial,?_⟩
           gi_at_call 66
           refine (CallsIn.inRound l (callsIn_wide.2 (HM2.out _))).mono ?_
           rintro e w4 ⟨rfl,hw4⟩
           clear HM2
           have hO4:=Qaa hO3 hw4
           clear hO3)
        | (with_reducible show wpListIn _ _ _ _ _ ((⟨_,.load 49 _,_,_,_,_⟩:Oper)::_) _ _
           refine QbE rfl 49 _ rfl gO rfl 49 _ (0,0) _ hO Tryd.underlying49 rfl QaS ?_)
        | (with_reducible show wpListIn _ _ _ _ _ ((⟨_,.load 49 _,_,_,_,_⟩:Oper)::_) _ _
           refine QbE rfl 49 _ rfl gO rfl 49 _ (0,0) _ hO3 Tryd.underlying49 rfl QaS ?_)
        | (with_reducible show wpListIn _ _ _ _ _ ((⟨_,.load 49 _,_,_,_,_⟩:Oper)::_) _ _
           refine QbE rfl 49 _ rfl w.heap.size rfl 49 _ (0,0) _ hA3 Tryd.underlying49 rfl QaS ?_)
        | (with_reducible show wpListIn _ _ _ _ _ ((⟨_,.store 49 _ _,_,_,_,_⟩:Oper)::_) _ _
           refine Qb5 rfl 49 _ _ rfl gO (numA o2) rfl rfl 49 _ hO2 QaS rfl (Qb3 _) ?_
           have hO3:=setRow_heap _ _ _ (numA o2) _ _ hO2
           have hA3:=(setRow_other _ gO w.heap.size (numA o2) (by omega)).trans (Qaa hA hw2)
           have hR3:=(setRow_other _ gO (w.heap.size+1) (numA o2) (by omega)).trans (Qaa hR hw2)
           have hk3:=(QbQ hw2).trans (Qdc hO2 (numA o2))
           have hb3:=QdI (QeI (n:=w.heap.size) hw2 (by omega)) (show w.heap.size≤gO by omega) (numA o2)
           clear hO2 hw2)
        | (with_reducible show wpListIn _ _ _ _ _ ((⟨_,.store 49 _ _,_,_,_,_⟩:Oper)::_) _ _
           refine Qb5 rfl 49 _ _ rfl gO (numA o3) rfl rfl 49 _ hO4 QaS rfl (Qb3 _) ?_)
      have hl3:=Qa3 hA3
      have hb5:=QdI (hb3.trans (QeI hw4 (by omega))) (show w.heap.size≤gO by omega) (numA o3)
      refine ⟨(hk3.trans (QbQ hw4)).trans (Qdc hO4 _),hb5,⟨?_,(setRow_other _ _ _ _ (by omega)).trans (Qaa hA3 hw4),(setRow_other _ _ _ _ (by omega)).trans (Qaa hR3 hw4)⟩,hB.trans hb5⟩
      rw [HV.out]
      exact setRow_heap _ _ _ _ _ _ hO4
  case done =>
    rintro D ys W hD rfl ⟨⟨hO,hA,hR⟩,hB⟩ hK
    gi_wp2_with first
        | (with_reducible show wpListIn _ _ _ _ _ ((⟨_,.load 49 _,_,_,_,_⟩:Oper)::_) _ _
           refine QbE rfl 49 _ rfl gO rfl 49 _ (0,0) _ hO Tryd.underlying49 rfl QaS ?_)
        | (with_reducible show wpListIn _ _ _ _ _ ((⟨_,.store 49 _ _,_,_,_,_⟩:Oper)::_) _ _
           refine Qb5 rfl 49 _ _ rfl (w.heap.size+1) (numA (Qbu a (QbX es))) rfl rfl 49 _ hR QaS hbs (Qb3 _) ?_)
    have hK':=(Qdc hR (numA (Qbu a (QbX es)))).same D _ hK rfl
    refine ⟨by simp,.inl ⟨_,_,rfl,run_takeDeferred hK',?_⟩⟩
    exact ⟨_,results_cell_row (p:=4) rfl _ _ (w.heap.size+1) 49 (numA (Qbu a (QbX es))) (0,0) _ rfl (Qb2 (setRow_heap _ _ _ _ _ _ hR) (grownBy_putObj' _ D (.deferred none)) (fun r e=>by cases e; exact ⟨_,hK',rfl⟩)) Tryd.underlying49 rfl QaS,rfl,
      (QdI hB (by omega) _).trans (belowK_b (w:=w) (qR _) _ D _ _ (by omega) hK' rfl rfl)⟩
  case stop =>
    rintro D c pre W _ _ h _
    exact h.elim
end Go.Proofs.YtdoadngmgmdlbaaDoor.Field
end
section
namespace Go.Proofs.YtdoadngmgmdlbaaDoor.Field
open Go Go.RowKit
open Rely
def expo (lo hi:Int):List Int:=lo::(List.replicate 30 255++[hi])
theorem QeB (lo hi:Int):(expo lo hi).length=32:=by simp [expo]
theorem QeS (lo hi:Int) (hl:0≤lo∧lo≤255) (hh:0≤hi∧hi≤255):Qal (expo lo hi):=fun x hx=>by
  simp only [expo,List.mem_cons,List.mem_append,List.mem_replicate,List.not_mem_nil,or_false] at hx
  omega
theorem QmZ (lo hi:Int):((ints .u8 (mix 32 (fun _=>255) (fun _=>0) 32)).setIfInBounds 0 (.int .u8 lo)).setIfInBounds 31 (.int .u8 hi)=ints .u8 (expo lo hi):=by
  rw [Qbz,Qbz]
  rfl
theorem exponent (lo hi:Int) (w:World):Calls Tryd.prog 93 #[.int .u8 lo,.int .u8 hi] w (Ret w (.agg (ints .u8 (expo lo hi)))):=by
  go_enter Tryd.func93,Tryd.ntmps93
  go_wp2_with fail
  go_loopw [6,7] (fun c i wr=>∃ k:Nat,k≤32∧i=.int .i64 k∧Ext w wr∧(∃ b,b.size=32∧wr.heap[w.heap.size]? = some (.cells b 23)) ∧
    wr.heap[w.heap.size+1]? = some (.cells (ints .u8 (mix 32 (fun _=>255) (fun _=>0) k)) 23)) (fun _ i _=>32-(intOf i).toNat)
  case atStart=>exact ⟨0,by omega,rfl,Ext.trans (QaJ _ _) (QaJ _ _),⟨_,rfl,Qfu _ _ _⟩,Qft _ _ _⟩
  case round =>
    obtain ⟨k,hk,rfl,he,⟨b,hbs,hB⟩,hC⟩:=hrel
    by_cases hlt:k<32
    · have hZ:(ints .u8 (mix 32 (fun _=>255) (fun _=>0) k))[k]? = some (.int .u8 0):=by rw [Qas _ _ _ (by rw [mix_len]; omega),mix_nth _ _ _ _ _ (by omega),if_neg (by omega)]
      have hS:(ints .u8 (mix 32 (fun _=>255) (fun _=>0) k)).setIfInBounds k (.int .u8 255)=ints .u8 (mix 32 (fun _=>255) (fun _=>0) (k+1)):=by rw [Qbz,←mix_set _ _ _ _ (by omega)]
      have hcx:=QaE hC hZ
      have hfx:=Qbm hC k
      have q5:(k:Int)<32:=by omega
      go_wp2
      exact ⟨⟨k+1,by omega,by go_num,Qcl he (by omega) _ _,⟨b,hbs,(Qa6 _ _ (by omega)).trans hB⟩,(Qck _ _ hC).trans (by rw [hS])⟩,by simp [intOf]; omega⟩
    · obtain rfl:k=32:=by omega
      have hX:(ints .u8 (mix 32 (fun _=>255) (fun _=>0) 32))[0]? = some (.int .u8 255):=by rw [Qas _ _ _ (by rw [mix_len]; omega),mix_nth _ _ _ _ _ (by omega),if_pos (by omega)]
      have hY:(ints .u8 (mix 32 (fun _=>255) (fun _=>0) 32))[31]? = some (.int .u8 255):=by rw [Qas _ _ _ (by rw [mix_len]; omega),mix_nth _ _ _ _ _ (by omega),if_pos (by omega)]
      have hcx:=QaE hC hX
      have hfx:=Qbm hC 0
      have hC2:=Qck 0 (.int .u8 lo) hC
      have hcy:(wr.setCell ⟨w.heap.size+1,0,none⟩ (.int .u8 lo)).cell? ⟨w.heap.size+1,31,none⟩=some (.int .u8 255):=QaE hC2 (by rw [Array.getElem?_setIfInBounds_ne (by decide)]; exact hY)
      have hfy:=Qbm hC2 31
      have hB2:=(Qa6 (W:=wr) 0 (.int .u8 lo) (show w.heap.size≠w.heap.size+1 by omega)).trans hB
      have he2:=Qcl he (show w.heap.size≤w.heap.size+1 by omega) 0 (.int .u8 lo)
      generalize hwz:wr.setCell ⟨w.heap.size+1,0,none⟩ (.int .u8 lo)=wz at *
      have hC3:=Qck 31 (.int .u8 hi) hC2
      rw [QmZ] at hC3
      have hB3:=(Qa6 (W:=wz) 31 (.int .u8 hi) (show w.heap.size≠w.heap.size+1 by omega)).trans hB2
      have he3:=Qcl he2 (show w.heap.size≤w.heap.size+1 by omega) 31 (.int .u8 hi)
      generalize hwy:wz.setCell ⟨w.heap.size+1,31,none⟩ (.int .u8 hi)=wy at *
      have hi':(Tryd.prog.info? 23).map (·.size)=some (ints .u8 (expo lo hi)).size:=by rw [infoKey,Qae,QeB]
      have hbl:b.size=(ints .u8 (expo lo hi)).size:=by rw [hbs,Qae,QeB]
      clear hC hC2 hB hB2 he he2
      go_wp2_with first
        | (with_reducible show wpList _ _ _ ((⟨_,.load 23 _,_,_,_,_⟩:Oper)::_) _ _
           refine wpList_load_row rfl 23 _ rfl (w.heap.size+1) rfl 23 _ (0,0) _ hC3 Tryd.underlying23 rfl hi' ?_)
        | (with_reducible show wpList _ _ _ ((⟨_,.store 23 _ _,_,_,_,_⟩:Oper)::_) _ _
           refine wpList_store_row rfl 23 _ _ rfl w.heap.size _ rfl rfl 23 _ hB3 hi' hbl (ints_one _ _) ?_)
      exact bodyPost_ret (results_cell_row (p:=4) rfl _ _ w.heap.size 23 _ (0,0) _ rfl (setRow_heap _ _ _ _ _ _ hB3) Tryd.underlying23 rfl hi') rfl ⟨rfl,QaO he3 (qR _) _⟩
def invN (a : Int):Int:=Qbu a (QbX (expo 235 127))
theorem Qdd (a : Int):isN (invN a):=Qdk _ _
theorem inv (a : Int) (ha:isN a) (w:World):Calls Tryd.prog 70 #[num a] w (Ret w (num (invN a))):=by
  have HE:Hid (∀ w,Calls Tryd.prog 93 #[.int .u8 235,.int .u8 127] w (Ret w (.agg (ints .u8 (expo 235 127))))):=Lib.hid (exponent 235 127)
  have HB:Hid (∀ w,Calls Tryd.prog 46 #[.agg (ints .u8 (expo 235 127))] w (QfT w (QeJ (expo 235 127)))):=Lib.hid (QfO _)
  have HP:Hid (∀ v w,QeJ (expo 235 127) v w→Calls Tryd.prog 92 #[num a,v] w (Ret w (num (invN a)))):=Lib.hid fun v w hv=>power a ha (expo 235 127) (QeB _ _) (QeS _ _ (by decide) (by decide)) v w hv
  generalize expo 235 127=ex at *
  generalize invN a=r at *
  rw [show num a=.agg (numA a) from rfl] at HP ⊢
  go_enter Tryd.func70,Tryd.ntmps70
  go_wp2_with fail
  generalize hW:(w.alloc _).alloc _=W0
  have hA:W0.heap[w.heap.size]? = some (.cells (numA a) 49):=by rw [←hW]; exact Qfu _ _ _
  have hC:∃ b:Array Value,b.size=4∧W0.heap[w.heap.size+1]? = some (.cells b 49):=by rw [←hW]; exact ⟨_,rfl,Qft _ _ _⟩
  obtain ⟨b,hbs,hC⟩:=hC
  have he:Ext w W0:=by rw [←hW]; exact Ext.trans (QaJ _ _) (QaJ _ _)
  clear hW
  refine Qa8 Ext 3 7 [⟨none,[(1,none)]⟩,⟨none,[]⟩,⟨none,[(4,some 1)]⟩] kj kj rfl Ext.refl Ext.trans (fun F r0 hr hF=>?_)
  have f1:r0 1=.pointer (some ⟨w.heap.size,0,none⟩):=by rw [hr]; rfl
  clear hr
  simp only [List.take_succ_cons,List.take_zero]
  refine Qay (.agg (numA a)) (fun ρ W hR hh=>?_) ?_
  · exact Qbi 49 (.tmp _) rfl _ (Eq.trans hh.1 f1) 49 _ (0,0) _ (Qaa (Qaa hA (Qai _)) hR) Tryd.underlying49 rfl QaS
  refine Qay (.agg (ints .u8 ex)) (fun ρ W hR hh=>?_) ?_
  · simp only [guarded,QaU]
    go_simp
    exact ⟨Ext.refl _,(HE.out _).mono fun _ _ h=>h.const⟩
  refine Qet (QeJ ex) (QdH ex) (fun ρ W hR hh=>?_) ?_
  · have h4:ρ 4=.agg (ints .u8 ex):=hh.1
    simp only [guarded,QaU]
    go_simp
    exact ⟨Ext.refl _,(HB.out _).mono fun _ _ h=>h.fact⟩
  simp only [List.cons_append,List.nil_append]
  refine hF.out fun W hR=>?_
  simp only [List.take_succ_cons,List.take_zero,List.drop_succ_cons,List.drop_zero,fin,forall_eq,Act.put,List.setIfInBounds_toArray,List.set_cons_zero,List.set_cons_succ]
  intro v hv
  have HP':=Lib.hid (HP.out v W hv)
  clear hF HP HE HB hv
  go_wp2_with first
    | (go_at_call 92
       (with_reducible refine HP'.out.mono ?_)
       rintro e w' ⟨rfl,hw⟩
       have hC':=Qaa (Qaa (Qaa hC (Qai _)) hR) hw
       have he':=Ext.trans (Ext.trans (Ext.trans he (Qai _)) hR) hw)
    | (with_reducible show wpList _ _ _ ((⟨_,.store 49 _ _,_,_,_,_⟩:Oper)::_) _ _
       refine wpList_store_row rfl 49 _ _ rfl (w.heap.size+1) (numA r) rfl rfl 49 _ hC' QaS hbs (Qb3 _) ?_)
  exact bodyPost_ret (Qdt (t:=2) rfl rfl (setRow_heap _ _ _ _ _ _ hC')) rfl ⟨rfl,QaO he' (by omega) _⟩
end Go.Proofs.YtdoadngmgmdlbaaDoor.Field
end
section
namespace Go.Proofs.YtdoadngmgmdlbaaDoor.Field
open Go Go.RowKit
open Rely
def lbit (e : Int) (i:Nat):Int:=limb e (i/16)/2^(i%16)%2
def lbits (e : Int):List Int:=(List.range 256).map fun j=>lbit e (255-j)
theorem Qlb (e : Int):(lbits e).length=256:=by simp [lbits]
theorem QjU (e : Int) (j:Nat) (hj:j<256):(lbits e).take (256-j)=(lbits e).take (256-(j+1))++[lbit e j]:=by
  have h0:256-j=(256-(j+1))+1:=by omega
  rw [h0,List.take_add_one]
  congr 1
  have h:256-(j+1)<256:=by omega
  simp only [lbits,List.getElem?_map,List.getElem?_range h,Option.map_some,Option.toList_some]
  rw [show 255-(256-(j+1))=j by omega]
set_option maxHeartbeats 1000000 in
theorem Qq2 (x e:Int) (hx:isN x) (he0:0≤e∧e<big) (w:World):Calls Tryd.prog 83 #[lnum x,lnum e] w (Ret w (lnum (Qbu x (lbits e)))):=by
  have h1':ints .i64 (lims 1)=#[.int .i64 1,.int .i64 0,.int .i64 0,.int .i64 0,.int .i64 0,.int .i64 0,.int .i64 0,.int .i64 0,.int .i64 0,.int .i64 0,.int .i64 0,.int .i64 0,.int .i64 0,.int .i64 0,.int .i64 0,.int .i64 0]:=by rw [QmH]; rfl
  unfold lnum
  go_enter Tryd.func83,Tryd.ntmps83
  go_wp2_with fail
  generalize hW:(((w.alloc _).alloc _).alloc _).alloc _=W0
  have hA:W0.heap[w.heap.size]? = some (.cells (ints .i64 (lims x)) 58):=by rw [←hW]; exact Qhd _ _ _ _ _
  have hE:W0.heap[w.heap.size+1]? = some (.cells (ints .i64 (lims e)) 58):=by rw [←hW]; exact Qhc _ _ _ _ _
  have hR:∃ b:Array Value,b.size=16∧W0.heap[w.heap.size+1+1]? = some (.cells b 58):=by rw [←hW]; exact ⟨_,rfl,Qhb _ _ _ _ _⟩
  have hO:W0.heap[w.heap.size+1+1+1]? = some (.cells (ints .i64 (lims 1)) 58):=by rw [←hW,h1']; exact Qha _ _ _ _ _
  have he:Ext w W0:=by rw [←hW]; exact ext4 _ _ _ _ _
  clear hW h1'
  go_loopw [6] (fun i wr=>∃ k:Nat,k≤256∧i=.int .i64 ((k:Int)-1)∧Ext w wr∧wr.heap[w.heap.size]? = some (.cells (ints .i64 (lims x)) 58)∧wr.heap[w.heap.size+1]? = some (.cells (ints .i64 (lims e)) 58) ∧
    (∃ b,b.size=16∧wr.heap[w.heap.size+1+1]? = some (.cells b 58))∧wr.heap[w.heap.size+1+1+1]? = some (.cells (ints .i64 (lims (Qbu x ((lbits e).take (256-k))))) 58)) (fun i _=>(intOf i+1).toNat)
  case atStart=>exact ⟨256,by omega,rfl,he,hA,hE,hR,hO⟩
  case round =>
    clear hA hE hR hO he
    obtain ⟨k,hk,rfl,he,hA,hE,⟨b,hbs,hR⟩,hO⟩:=hrel
    rcases k with _ | j
    · rw [List.take_of_length_le (by rw [Qlb]; omega)] at hO
      have hrl:=QaM (Qbu x (lbits e))
      go_wp2_with first
        | (with_reducible show wpList _ _ _ ((⟨_,.load 58 _,_,_,_,_⟩:Oper)::_) _ _
           refine wpList_load_row rfl 58 _ rfl (w.heap.size+1+1+1) rfl 58 _ (0,0) _ hO Tryd.underlying58 rfl (QbR _ hrl) ?_)
        | (with_reducible show wpList _ _ _ ((⟨_,.store 58 _ _,_,_,_,_⟩:Oper)::_) _ _
           refine wpList_store_row rfl 58 _ _ rfl (w.heap.size+1+1) _ rfl rfl 58 _ hR (QbR _ hrl) (by rw [hbs,Qae,hrl]) (ints_one _ _) ?_)
      exact bodyPost_ret (results_cell_row (p:=4) rfl _ _ (w.heap.size+1+1) 58 _ (0,0) _ rfl (setRow_heap _ _ _ _ _ _ hR) Tryd.underlying58 rfl (QbR _ hrl)) rfl ⟨rfl,QaO he (by omega) _⟩
    · have hj:j<256:=by omega
      rw [show ((j+1:Nat):Int)-1=(j:Int) by omega]
      have HT:=Lib.hid (QjU e j hj)
      have hsn:=Qdu x ((lbits e).take (256-(j+1))) (lbit e j)
      have io:=Qdk x ((lbits e).take (256-(j+1)))
      generalize hoo:Qbu x ((lbits e).take (256-(j+1)))=o at *
      have HM:Hid (∀ w,Calls Tryd.prog 58 #[.agg (ints .i64 (lims o)),.agg (ints .i64 (lims o))] w (Ret w (.agg (ints .i64 (lims (o*o%p)))))):=Lib.hid (lMul o o (Qdw io) (Qdw io))
      have HM2:Hid (∀ w,Calls Tryd.prog 58 #[.agg (ints .i64 (lims (o*o%p))),.agg (ints .i64 (lims x))] w (Ret w (.agg (ints .i64 (lims (o*o%p*x%p)))))):=Lib.hid (lMul _ _ (Qdw (Qa0 _)) (Qdw hx))
      have eb:lbit e j=limb e (j/16)/2^(j%16)%2:=rfl
      have b1:=QaV e (j/16)
      have hX:(ints .i64 (lims e))[j/16]? = some (.int .i64 (limb e (j/16))):=by rw [Qas _ _ _ (by rw [QaM]; omega),QcP _ _ (by omega)]
      generalize hv:limb e (j/16)=v at *
      have q0:(0:Int)≤(j:Int):=by omega
      have q1:(j:Int)/16<16:=by omega
      have q2:IntKind.i64.wrap ((j:Int)/16)=(j:Int)/16:=IntWalk.i64_in _ (by omega)
      have qm:(j:Int).tmod 16=(j:Int)%16:=Int.tmod_eq_emod_of_nonneg (by omega)
      have q3:IntKind.i64.wrap ((j:Int)%16)=(j:Int)%16:=IntWalk.i64_in _ (by omega)
      have q4:(0:Int)≤(j:Int)/16:=by omega
      have q5:((j:Int)/16).toNat=j/16:=by omega
      have q6:((j:Int)%16).toNat=j%16:=by omega
      have q7:(0:Int)≤(j:Int)%16:=by omega
      have q8:(j:Int)%16<16:=by omega
      have q9:IntKind.u64.wrap ((j:Int)%16)=(j:Int)%16:=by rw [IntKind.wrap_u64]; omega
      have q10:(j:Int)%16<64:=by omega
      have hp:(1:Int)≤2^(j%16):=by
        have:(0:Int)<2^(j%16):=Int.pow_pos (by decide)
        omega
      have d1:0≤v/2^(j%16):=Int.ediv_nonneg b1.1 (by omega)
      have d2:v/2^(j%16)≤v:=Int.ediv_le_self _ b1.1
      have w1:IntKind.i64.wrap (v/2^(j%16))=v/2^(j%16):=IntWalk.i64_in _ (by omega)
      have w2:(v/2^(j%16)).tmod 2=v/2^(j%16)%2:=Int.tmod_eq_emod_of_nonneg d1
      have w3:IntKind.i64.wrap (v/2^(j%16)%2)=v/2^(j%16)%2:=IntWalk.i64_in _ (by omega)
      have hlO:=Qa3 hO
      have r2:=QaM (o*o%p)
      have r3:=QaM (o*o%p*x%p)
      have r1:=QaM o
      have rx:=QaM x
      have EB:=Lib.hid eb
      have HSN:=Lib.hid hsn
      clear eb hsn
      by_cases hz:v/2^(j%16)%2=1
      · go_wp2_with first
          | (go_at_call 58
             (with_reducible refine (HM.out _).mono ?_)
             rintro e2 w2' ⟨rfl,hw2⟩
             clear HM
             have hO2:=Qaa hO hw2
             clear hO)
          | (go_at_call 58
             (with_reducible refine (HM2.out _).mono ?_)
             rintro e4 w4' ⟨rfl,hw4⟩
             clear HM2
             have hO4:=Qaa hO3 hw4
             clear hO3)
          | (with_reducible show wpList _ _ _ ((⟨_,.load 58 _,_,_,_,_⟩:Oper)::_) _ _
             refine wpList_load_row rfl 58 _ rfl (w.heap.size+1+1+1) rfl 58 _ (0,0) _ hO Tryd.underlying58 rfl (QbR _ r1) ?_)
          | (with_reducible show wpList _ _ _ ((⟨_,.load 58 _,_,_,_,_⟩:Oper)::_) _ _
             refine wpList_load_row rfl 58 _ rfl (w.heap.size+1+1+1) rfl 58 _ (0,0) _ hO3 Tryd.underlying58 rfl (QbR _ r2) ?_)
          | (with_reducible show wpList _ _ _ ((⟨_,.load 58 _,_,_,_,_⟩:Oper)::_) _ _
             refine wpList_load_row rfl 58 _ rfl w.heap.size rfl 58 _ (0,0) _ hA3 Tryd.underlying58 rfl (QbR _ rx) ?_)
          | (with_reducible show wpList _ _ _ ((⟨_,.store 58 _ _,_,_,_,_⟩:Oper)::_) _ _
             refine wpList_store_row rfl 58 _ _ rfl (w.heap.size+1+1+1) _ rfl rfl 58 _ hO2 (QbR _ r2) (by rw [Qae,Qae,r1,r2]) (ints_one _ _) ?_
             have hE3:=(setRow_other _ (w.heap.size+1+1+1) (w.heap.size+1) (ints .i64 (lims (o*o%p))) (by omega)).trans (Qaa hE hw2)
             have hA3:=(setRow_other _ (w.heap.size+1+1+1) w.heap.size (ints .i64 (lims (o*o%p))) (by omega)).trans (Qaa hA hw2)
             have hR3:=(setRow_other _ (w.heap.size+1+1+1) (w.heap.size+1+1) (ints .i64 (lims (o*o%p))) (by omega)).trans (Qaa hR hw2)
             have hO3:=setRow_heap _ _ _ (ints .i64 (lims (o*o%p))) _ _ hO2
             have he3:=QaO (Ext.trans he hw2) (show w.heap.size≤(w.heap.size+1+1+1) by omega) (ints .i64 (lims (o*o%p)))
             have hcx:=QaE hE3 hX
             clear hO2 hw2)
          | (with_reducible show wpList _ _ _ ((⟨_,.store 58 _ _,_,_,_,_⟩:Oper)::_) _ _
             refine wpList_store_row rfl 58 _ _ rfl (w.heap.size+1+1+1) _ rfl rfl 58 _ hO4 (QbR _ r3) (by rw [Qae,Qae,r2,r3]) (ints_one _ _) ?_)
        refine ⟨⟨j,by omega,rfl,QaO (Ext.trans he3 hw4) (by omega) _,(setRow_other _ _ _ _ (by omega)).trans (Qaa hA3 hw4),(setRow_other _ _ _ _ (by omega)).trans (Qaa hE3 hw4),⟨b,hbs,(setRow_other _ _ _ _ (by omega)).trans (Qaa hR3 hw4)⟩,?_⟩,by simp [intOf]⟩
        rw [HT.out,HSN.out]
        unfold Qe0
        rw [if_neg (by rw [EB.out]; omega)]
        exact setRow_heap _ _ _ _ _ _ hO4
      · have hz0:v/2^(j%16)%2=0:=by omega
        go_wp2_with first
          | (go_at_call 58
             (with_reducible refine (HM.out _).mono ?_)
             rintro e2 w2' ⟨rfl,hw2⟩
             have hO2:=Qaa hO hw2)
          | (with_reducible show wpList _ _ _ ((⟨_,.load 58 _,_,_,_,_⟩:Oper)::_) _ _
             refine wpList_load_row rfl 58 _ rfl (w.heap.size+1+1+1) rfl 58 _ (0,0) _ hO Tryd.underlying58 rfl (QbR _ r1) ?_)
          | (with_reducible show wpList _ _ _ ((⟨_,.store 58 _ _,_,_,_,_⟩:Oper)::_) _ _
             refine wpList_store_row rfl 58 _ _ rfl (w.heap.size+1+1+1) _ rfl rfl 58 _ hO2 (QbR _ r2) (by rw [Qae,Qae,r1,r2]) (ints_one _ _) ?_
             have hE3:=(setRow_other _ (w.heap.size+1+1+1) (w.heap.size+1) (ints .i64 (lims (o*o%p))) (by omega)).trans (Qaa hE hw2)
             have hcx:=QaE hE3 hX)
        refine ⟨⟨j,by omega,rfl,QaO (Ext.trans he hw2) (by omega) _,(setRow_other _ _ _ _ (by omega)).trans (Qaa hA hw2),(setRow_other _ _ _ _ (by omega)).trans (Qaa hE hw2),⟨b,hbs,(setRow_other _ _ _ _ (by omega)).trans (Qaa hR hw2)⟩,?_⟩,by simp [intOf]⟩
        rw [HT.out,HSN.out]
        unfold Qe0
        rw [if_pos (by rw [EB.out]; exact hz0)]
        exact setRow_heap _ _ _ _ _ _ hO2
theorem QmG : lims 2=2::List.replicate 15 0:=by decide +kernel
theorem QmP : lbits (p-2)=QbX (expo 235 127):=by decide +kernel
theorem lInv (a : Int) (ha:isN a) (w:World):Calls Tryd.prog 56 #[lnum a] w (Ret w (lnum (invN a))):=by
  have hp0:(0:Int)≤p∧p<big:=by decide
  have HP:Hid (∀ w,Calls Tryd.prog 85 #[] w (Ret w (lnum p))):=Lib.hid prime
  have HM:Hid (∀ w,Calls Tryd.prog 84 #[lnum p,lnum 2] w (Ret w (lnum (p-2)))):=Lib.hid fun w=>minus p 2 (by decide) (by decide) hp0.2 w
  have HW:Hid (∀ w,Calls Tryd.prog 83 #[lnum a,lnum (p-2)] w (Ret w (lnum (invN a)))):=Lib.hid fun w=>by
    have:=Qq2 a (p-2) ha (by decide) w
    rw [QmP] at this
    exact this
  have h2:lnum 2=.agg #[.int .i64 2,.int .i64 0,.int .i64 0,.int .i64 0,.int .i64 0,.int .i64 0,.int .i64 0,.int .i64 0,.int .i64 0,.int .i64 0,.int .i64 0,.int .i64 0,.int .i64 0,.int .i64 0,.int .i64 0,.int .i64 0]:=by unfold lnum; rw [QmG]; rfl
  rw [h2] at HM
  unfold lnum at HM HP HW ⊢
  clear h2 hp0
  have ra:=QaM a
  have rr:=QaM (invN a)
  generalize lims (invN a)=res at *
  generalize lims (p-2)=lq at *
  generalize lims p=lp at *
  generalize lims a=la at *
  go_enter Tryd.func56,Tryd.ntmps56
  go_wp2_with fail
  generalize hW:(w.alloc _).alloc _=W0
  have hA:W0.heap[w.heap.size]? = some (.cells (ints .i64 la) 58):=by rw [←hW]; exact Qfu _ _ _
  have hC:∃ b:Array Value,b.size=16∧W0.heap[w.heap.size+1]? = some (.cells b 58):=by rw [←hW]; exact ⟨_,rfl,Qft _ _ _⟩
  obtain ⟨b,hbs,hC⟩:=hC
  have he:Ext w W0:=by rw [←hW]; exact Ext.trans (QaJ _ _) (QaJ _ _)
  clear hW
  refine Qa8 Ext 4 8 [⟨none,[(1,none)]⟩,⟨none,[]⟩,⟨none,[]⟩,⟨none,[(4,some 1),(5,some 2)]⟩] kj kj rfl Ext.refl Ext.trans (fun F r0 hr hF=>?_)
  have f1:r0 1=.pointer (some ⟨w.heap.size,0,none⟩):=by rw [hr]; rfl
  clear hr
  simp only [List.take_succ_cons,List.take_zero]
  refine Qay (.agg (ints .i64 la)) (fun ρ W hR hh=>?_) ?_
  · exact Qbi 58 (.tmp _) rfl _ (Eq.trans hh.1 f1) 58 _ (0,0) _ (Qaa (Qaa hA (Qai _)) hR) Tryd.underlying58 rfl (QbR _ ra)
  refine Qay (.agg (ints .i64 lp)) (fun ρ W hR hh=>?_) ?_
  · simp only [guarded,QaU]
    go_simp
    exact ⟨Ext.refl _,(HP.out _).mono fun _ _ h=>h.const⟩
  refine Qay (.agg #[.int .i64 2,.int .i64 0,.int .i64 0,.int .i64 0,.int .i64 0,.int .i64 0,.int .i64 0,.int .i64 0,.int .i64 0,.int .i64 0,.int .i64 0,.int .i64 0,.int .i64 0,.int .i64 0,.int .i64 0,.int .i64 0]) (fun ρ W hR hh=>?_) ?_
  · simp only [guarded,QaU]
    go_simp
    exact Ext.refl _
  refine Qay (.agg (ints .i64 lq)) (fun ρ W hR hh=>?_) ?_
  · have h4:ρ 4=.agg (ints .i64 lp):=hh.1
    have h5:ρ 5=.agg #[.int .i64 2,.int .i64 0,.int .i64 0,.int .i64 0,.int .i64 0,.int .i64 0,.int .i64 0,.int .i64 0,.int .i64 0,.int .i64 0,.int .i64 0,.int .i64 0,.int .i64 0,.int .i64 0,.int .i64 0,.int .i64 0]:=hh.2.1
    simp only [guarded,QaU]
    go_simp
    exact ⟨Ext.refl _,(HM.out _).mono fun _ _ h=>h.const⟩
  simp only [List.cons_append,List.nil_append]
  refine hF.out fun W hR=>?_
  simp only [List.take_succ_cons,List.take_zero,List.drop_succ_cons,List.drop_zero,fin,forall_eq,Act.put,List.setIfInBounds_toArray,List.set_cons_zero,List.set_cons_succ]
  clear hF
  go_wp2_with first
    | (go_at_call 83
       (with_reducible refine (HW.out _).mono ?_)
       rintro e w' ⟨rfl,hw⟩
       have hC':=Qaa (Qaa (Qaa hC (Qai _)) hR) hw
       have he':=Ext.trans (Ext.trans (Ext.trans he (Qai _)) hR) hw)
    | (with_reducible show wpList _ _ _ ((⟨_,.store 58 _ _,_,_,_,_⟩:Oper)::_) _ _
       refine wpList_store_row rfl 58 _ _ rfl (w.heap.size+1) _ rfl rfl 58 _ hC' (QbR _ rr) (by rw [hbs,Qae,rr]) (ints_one _ _) ?_)
  exact bodyPost_ret (results_cell_row (p:=2) rfl _ _ (w.heap.size+1) 58 _ (0,0) _ rfl (setRow_heap _ _ _ _ _ _ hC') Tryd.underlying58 rfl (QbR _ rr)) rfl ⟨rfl,QaO he' (by omega) _⟩
end Go.Proofs.YtdoadngmgmdlbaaDoor.Field
end
section
namespace Go.Proofs.YtdoadngmgmdlbaaDoor.Field
open Go Go.RowKit
open Rely
theorem QdG (A k P:Nat):((A:Int)^k)%(P:Int)=((A^k%P:Nat):Int):=by
  rw [Int.natCast_emod,Int.natCast_pow]
theorem QdR (x : Int) (hx:isN x) (h0:x≠0) (k:Nat) (hk:k=57896044618658097711785492504343953926634992332820282019728792003956564819949-1):x^k%p=1:=by
  obtain ⟨A,rfl⟩:=Int.eq_ofNat_of_zero_le hx.1
  have hA:A<57896044618658097711785492504343953926634992332820282019728792003956564819949:=by have:=hx.2; unfold p at this; omega
  have hA0:A≠0:=fun e=>h0 (by rw [e]; rfl)
  have hf:=Prime.p25519.2.1 A (by rw [Nat.mod_eq_of_lt hA]; exact hA0)
  rw [←hk] at hf
  have:=QdG A k 57896044618658097711785492504343953926634992332820282019728792003956564819949
  rw [hf] at this
  exact this
theorem Qpf : cnt (QbX (expo 235 127))+1=57896044618658097711785492504343953926634992332820282019728792003956564819949-1:=by decide +kernel
theorem Qpe (k : Nat) (h:k+1=57896044618658097711785492504343953926634992332820282019728792003956564819949-1) (x:Int) (hx:isN x) (h0:x≠0):x*(x^k%p)%p=1:=by
  have e:x^k*x=x^(k+1):=(Int.pow_succ x k).symm
  rw [Int.mul_emod,Int.emod_emod,←Int.mul_emod,Int.mul_comm,e]
  generalize k+1=m at *
  exact QdR x hx h0 m h
theorem QgR (x : Int) (hx:isN x) (h0:x≠0):x*invN x%p=1:=by
  unfold invN
  rw [QiR]
  exact Qpe _ Qpf x hx h0
end Go.Proofs.YtdoadngmgmdlbaaDoor.Field
end
section
namespace Go.Proofs.YtdoadngmgmdlbaaDoor.Field
open Go Go.RowKit
open Rely
theorem modL (a b:Int):a%p*b%p=a*b%p:=by rw [Int.mul_emod,Int.emod_emod,←Int.mul_emod]
theorem modR (a b:Int):a*(b%p)%p=a*b%p:=by rw [Int.mul_emod,Int.emod_emod,←Int.mul_emod]
theorem QfF (x : Int) (hx:isN x):x*1%p=x:=by rw [Int.mul_one,Int.emod_eq_of_lt hx.1 hx.2]
end Go.Proofs.YtdoadngmgmdlbaaDoor.Field
end
section
namespace Go.Proofs.YtdoadngmgmdlbaaDoor.Field
open Go Go.RowKit
open Rely
theorem QoW (es : List Int) (hb:Qal es) (k:Nat) (hk:k<16):limb (leAt es 0 32) k=Qb9 es k:=by
  have h:=QgJ es 16
  rw [show 2*16=32 from rfl] at h
  rw [←h]
  exact QoV (Qb9 es) 16 (fun i _=>QcS es hb i) k hk
theorem Qjd (es : List Int) (hb:Qal es):0≤leAt es 0 32∧leAt es 0 32<big:=by
  have h:=Qbv es hb 0 32
  rw [show (256:Int)^32=big by decide] at h
  exact h
theorem Qh0 (a b:Int) (ha:0≤a∧a≤255) (r:Nat) (hr:r<8):(a+256*b)/2^r%2=a/2^r%2:=by
  rcases (by omega:r=0∨r=1∨r=2∨r=3∨r=4∨r=5∨r=6∨r=7) with rfl | rfl | rfl | rfl | rfl | rfl | rfl | rfl
  all_goals
    simp only [Int.reducePow]
    omega
theorem QgK (a b:Int) (ha:0≤a∧a≤255) (r:Nat) (hr:r<8):(a+256*b)/2^(r+8)%2=b/2^r%2:=by
  rcases (by omega:r=0∨r=1∨r=2∨r=3∨r=4∨r=5∨r=6∨r=7) with rfl | rfl | rfl | rfl | rfl | rfl | rfl | rfl
  all_goals
    simp only [Int.reducePow,Nat.reduceAdd]
    omega
theorem QoZ (es : List Int) (hb:Qal es) (i:Nat) (hi:i<256):lbit (leAt es 0 32) i=QcR es i:=by
  unfold lbit QcR
  rw [QoW es hb (i/16) (by omega)]
  unfold Qb9
  rcases Nat.lt_or_ge (i%16) 8 with h | h
  · rw [show i/8=2*(i/16) by omega,show i%8=i%16 by omega]
    exact Qh0 _ _ (hb.nth _) _ h
  · obtain ⟨s,hs⟩:∃ s,i%16=s+8:=⟨i%16-8,by omega⟩
    rw [show i/8=2*(i/16)+1 by omega,show i%8=s by omega,hs]
    exact QgK _ _ (hb.nth _) _ (by omega)
end Go.Proofs.YtdoadngmgmdlbaaDoor.Field
end
section
namespace Go.Proofs.YtdoadngmgmdlbaaDoor.Field
open Go Go.RowKit Go.Shelf
open Rely
attribute [local go_sem] Oper.semAt_some
def Same (kb : Nat) (A B:World):Prop:=B.heap[kb]? = A.heap[kb]?
theorem Same.refl (kb : Nat) (A:World):Same kb A A:=rfl
theorem Same.trans' {kb : Nat} {A B C:World} (h:Same kb A B) (k:Same kb B C):Same kb A C:=Eq.trans k h
theorem Qhl {kb : Nat} {w:World} (hk:kb<w.heap.size) (W:World) (l:Nat) (o o':Obj) (hl:w.heap.size≤l) (h:W.heap[l]? = some o) (_:o.isCells=false) (_:o.isWalk=false):Same kb W (W.putObj l o') :=
  World.putObj_heap_other (by omega)
end Go.Proofs.YtdoadngmgmdlbaaDoor.Field
end
section
namespace Go.Proofs.YtdoadngmgmdlbaaDoor.Field
open Go Go.RowKit
open Rely
def Qbg (a : Int):Int:=Qbu a (QbX (expo 254 15))
def QbO : Int:=Qbu 2 (QbX (expo 251 31))
theorem Qey (a : Int):isN (Qbg a):=Qdk _ _
theorem Qk1 : isN QbO:=Qdk _ _
theorem Qoa : isN 2:=by unfold isN p; decide
theorem Qem : isN 0:=by unfold isN p; decide
def Qbl (r : Int):Int:=if r%2=1 then (0-r)%p else r
theorem Qgm (r : Int) (h:isN r):isN (Qbl r):=by
  unfold Qbl
  split
  · exact Qa0 _
  · exact h
theorem QjX (r : Int) (hr:isN r) (h:r%2=1):Qbl r=p-r:=by
  unfold Qbl
  rw [if_pos h]
  unfold isN p at *
  omega
def Qma (a r:Int):Int:=if r*r%p=a then Qbl r else 0
def Qd2 (a : Int):Int:=if Qbg a*Qbg a%p=a then Qbl (Qbg a) else Qma a (Qbg a*QbO%p)
def QbU (a : Int):Bool:=decide (Qbg a*Qbg a%p=a) || decide (Qbg a*QbO%p*(Qbg a*QbO%p)%p=a)
theorem Qk0 (a : Int):isN (Qd2 a):=by
  unfold Qd2 Qma
  split
  · exact Qgm _ (Qey a)
  · split
    · exact Qgm _ (Qa0 _)
    · exact Qem
theorem Qjv : cnt (QbX (expo 254 15))=7237005577332262213973186563042994240829374041602535252466099000494570602494:=by decide +kernel
theorem Qly : cnt (QbX (expo 251 31))=14474011154664524427946373126085988481658748083205070504932198000989141204987:=by decide +kernel
end Go.Proofs.YtdoadngmgmdlbaaDoor.Field
end
section
namespace Go.Proofs.YtdoadngmgmdlbaaDoor.Field
open Go Go.RowKit
open Rely
theorem Qdv (a : Int):∀ n:Nat,(a%p)^n%p=a^n%p
  | 0=>by rw [Int.pow_zero,Int.pow_zero]
  | n+1=>by
    rw [Int.pow_succ,Int.pow_succ,modR,Int.mul_emod,Qdv a n,←Int.mul_emod]
theorem euclid (u v:Nat) (h:57896044618658097711785492504343953926634992332820282019728792003956564819949 ∣ u*v) :
    57896044618658097711785492504343953926634992332820282019728792003956564819949 ∣ u∨57896044618658097711785492504343953926634992332820282019728792003956564819949 ∣ v:=by
  have hp:=Prime.p25519.1
  generalize 57896044618658097711785492504343953926634992332820282019728792003956564819949=P at *
  rcases hp.2 (Nat.gcd P u) (Nat.gcd_dvd_left P u) with hg | hg
  · right
    have hc:Nat.Coprime P u:=hg
    exact hc.dvd_of_dvd_mul_left h
  · left
    rw [←hg]
    exact Nat.gcd_dvd_right P u
theorem QlT (r x:Int) (hr:isN r) (hx:isN x) (h:r*r%p=x*x%p):r=x∨r=(0-x)%p:=by
  obtain ⟨R,rfl⟩:=Int.eq_ofNat_of_zero_le hr.1
  obtain ⟨X,rfl⟩:=Int.eq_ofNat_of_zero_le hx.1
  have hR:=hr.2
  have hX:=hx.2
  have h1:(p:Int) ∣ (R:Int)*R-(X:Int)*X:=Int.dvd_of_emod_eq_zero (by rw [Int.sub_emod,h,Int.sub_self]; rfl)
  have h2:(p:Int) ∣ ((R:Int)+p-X)*((R:Int)+X):=by
    have e:((R:Int)+p-X)*((R:Int)+X)=((R:Int)*R-(X:Int)*X)+p*((R:Int)+X):=by grind
    rw [e]
    exact Int.dvd_add h1 (Int.dvd_mul_right _ _)
  have h3:57896044618658097711785492504343953926634992332820282019728792003956564819949 ∣ (R+57896044618658097711785492504343953926634992332820282019728792003956564819949-X)*(R+X):=by
    unfold p at h2 hX
    rw [←Int.natCast_dvd_natCast]
    have e:(((R+57896044618658097711785492504343953926634992332820282019728792003956564819949-X)*(R+X):Nat):Int)=((R:Int)+57896044618658097711785492504343953926634992332820282019728792003956564819949-X)*((R:Int)+X):=by
      rw [Int.natCast_mul,Int.natCast_sub (by omega)]
      rfl
    rw [e]
    exact h2
  unfold p at *
  rcases euclid _ _ h3 with ⟨c,hc⟩ | ⟨c,hc⟩
  · left
    omega
  · right
    omega
theorem QpN (E h k:Nat) (hE:4*E=h+2) (hh:2*h=k) (hk:k=57896044618658097711785492504343953926634992332820282019728792003956564819949-1) (x:Int) (hx:isN x) (h0:x≠0) :
    (x*x%p)^E%p*((x*x%p)^E%p)%p=x*x%p*(x^h%p)%p∧x^h%p*(x^h%p)%p=1:=by
  constructor
  · rw [Qdv,←Int.mul_emod,←Int.pow_add,←Int.mul_emod]
    have e:(x*x)^(E+E)=x*x*x^h:=by
      have e1:x*x=x^2:=by rw [Int.pow_succ,Int.pow_succ,Int.pow_zero,Int.one_mul]
      rw [e1,←Int.pow_mul,←Int.pow_add]
      congr 1
      omega
    rw [e]
  · rw [←Int.mul_emod,←Int.pow_add,show h+h=k by omega]
    exact QdR x hx h0 k hk
theorem Qoy : Prime.pm 57896044618658097711785492504343953926634992332820282019728792003956564819949 256 2 28948022309329048855892746252171976963317496166410141009864396001978282409974=57896044618658097711785492504343953926634992332820282019728792003956564819948:=by decide +kernel
theorem QlR (m : Nat) (h:m=28948022309329048855892746252171976963317496166410141009864396001978282409974):(2:Int)^m%p=p-1:=by
  have h1:=Prime.pm_eq 57896044618658097711785492504343953926634992332820282019728792003956564819949 256 2 m (by rw [h]; decide)
  have h2:Prime.pm 57896044618658097711785492504343953926634992332820282019728792003956564819949 256 2 m=57896044618658097711785492504343953926634992332820282019728792003956564819948:=by rw [h]; exact Qoy
  rw [h2] at h1
  have h3:=QdG 2 m 57896044618658097711785492504343953926634992332820282019728792003956564819949
  rw [←h1] at h3
  exact h3
theorem Qg7 : QbO*QbO%p=p-1:=by
  have hc:=Qly
  unfold QbO
  rw [QiR]
  generalize cnt (QbX (expo 251 31))=K at *
  rw [←Int.mul_emod,←Int.pow_add]
  exact QlR (K+K) (by omega)
theorem Qf9 (x : Int) (hx:isN x) (h:x≠0):(0-x)%p=p-x:=by
  unfold isN p at *
  omega
theorem QjY (x : Int) (hx:isN x):Qbl ((0-x)%p)=Qbl x:=by
  by_cases h:x=0
  · subst h; rfl
  · have hpar:(p-x)%2=1-x%2:=by unfold p; omega
    have hN:isN (p-x):=by unfold isN at *; omega
    have h0:p-x≠0:=by unfold isN at hx; omega
    rw [Qf9 x hx h]
    unfold Qbl
    by_cases h2:x%2=1
    · rw [if_neg (by omega),if_pos h2,Qf9 x hx h]
    · rw [if_pos (by omega),if_neg h2,Qf9 (p-x) hN h0]
      omega
theorem QfH (a r:Int) (h1:Qbg a=r) (h2:r*r%p=a):QbU a=true∧Qd2 a=Qbl r:=by
  unfold QbU Qd2
  rw [h1,if_pos h2,decide_eq_true h2]
  exact ⟨rfl,rfl⟩
theorem QhK (a r:Int) (h1:Qbg a*QbO%p=r) (h0:Qbg a*Qbg a%p≠a) (h2:r*r%p=a):QbU a=true∧Qd2 a=Qbl r:=by
  unfold QbU Qd2 Qma
  rw [h1,if_neg h0,if_pos h2,decide_eq_true h2]
  simp
theorem Qkz : QbU 0=true∧Qd2 0=Qbl 0:=by
  refine QfH 0 0 ?_ (by decide)
  have hc:=Qjv
  unfold Qbg
  rw [QiR]
  generalize cnt (QbX (expo 254 15))=E at *
  rw [Int.zero_pow (by omega)]
  rfl
theorem QmV (a b:Int):a*b*(a*b)=a*a*(b*b):=by grind
theorem QpM (a i:Int):a*i%p*(a*i%p)%p=(a*a%p)*(i*i%p)%p:=by rw [←Int.mul_emod,←Int.mul_emod,QmV]
theorem Qqv (a : Int) (ha:isN a):a*(p-1)%p*(p-1)%p=a:=by
  rw [modL,Int.mul_assoc,←modR,show (p-1)*(p-1)%p=1 by decide,QfF a ha]
theorem Qqw (a : Int) (ha:isN a) (h:a≠0):a*(p-1)%p≠a:=by
  have e:a*(p-1)=(0-a)+p*a:=by grind
  rw [e,Int.add_mul_emod_self_left,Qf9 a ha h]
  unfold p
  omega
theorem QmS (E : Nat) (hc:E=7237005577332262213973186563042994240829374041602535252466099000494570602494):∃ h:Nat,4*E=h+2∧2*h=57896044618658097711785492504343953926634992332820282019728792003956564819949-1 :=
  ⟨28948022309329048855892746252171976963317496166410141009864396001978282409974,by omega,by decide⟩
theorem QqU (x : Int) (hx:isN x) (h:x≠0):x*x%p≠0:=fun e=>by
  rcases QlT x 0 hx Qem (by rw [e]; decide) with h1 | h1
  · exact h h1
  · exact h (h1.trans (by decide))
theorem Qkv (x : Int) (hx:isN x) (r:Int) (hr:isN r) (e:r*r%p=x*x%p):Qbl r=Qbl x:=by
  rcases QlT r x hr hx e with h1 | h1
  · rw [h1]
  · rw [h1]; exact QjY x hx
theorem QlZ (x : Int) (hx:isN x) (h0:x≠0):QbU (x*x%p)=true∧Qd2 (x*x%p)=Qbl x:=by
  obtain ⟨h,hE,hh⟩:=QmS (cnt (QbX (expo 254 15))) Qjv
  have hA:Qbg (x*x%p)=(x*x%p)^cnt (QbX (expo 254 15))%p:=by unfold Qbg; rw [QiR]
  generalize cnt (QbX (expo 254 15))=E at *
  obtain ⟨q1,q2⟩:=QpN E h (2*h) hE rfl hh x hx h0
  rw [←hA] at q1
  have hsN:isN (x^h%p):=Qa0 _
  have ha:=QqU x hx h0
  have haN:isN (x*x%p):=Qa0 _
  have hrN:=Qey (x*x%p)
  have back:=Qkv x hx
  clear hE hh hA
  generalize x^h%p=s at *
  generalize x*x%p=a at *
  have q2':s*s%p=1*1%p:=by rw [q2]; decide
  rcases QlT s 1 hsN QkP q2' with h1 | h1
  · have q3:Qbg a*Qbg a%p=a:=by rw [q1,h1,QfF a haN]
    have:=QfH _ _ rfl q3
    rw [back _ hrN q3] at this
    exact this
  · have h2:s=p-1:=by rw [h1]; decide
    have q3:Qbg a*Qbg a%p=a*(p-1)%p:=by rw [q1,h2]
    have q4:Qbg a*Qbg a%p≠a:=by rw [q3]; exact Qqw a haN ha
    have q5:Qbg a*QbO%p*(Qbg a*QbO%p)%p=a:=by rw [QpM,q3,Qg7,Qqv a haN]
    have:=QhK _ _ rfl q4 q5
    rw [back _ (Qa0 _) q5] at this
    exact this
theorem Qio (x : Int) (hx:isN x):QbU (x*x%p)=true∧Qd2 (x*x%p)=Qbl x:=by
  by_cases h0:x=0
  · subst h0
    rw [show (0:Int)*0%p=0 by decide]
    exact Qkz
  · exact QlZ x hx h0
end Go.Proofs.YtdoadngmgmdlbaaDoor.Field
end
section
namespace Go.Proofs.YtdoadngmgmdlbaaDoor.Field
open Go Go.RowKit
open Rely
theorem QbP {Pr : Program} {fn:Func} {q t:Tmp} {ty:TypeId} (h:fn.results=#[.cell q ty,.tmp t]) (tmps:Array Value) (w:World) (g:Nat) (tt:TypeId) (cs:Array Value) (fr:Nat×Nat) (d:TypeDesc)
    (hp:tmps.getD q undef=.pointer (some ⟨g,0,none⟩)) (v:Value) (ht:tmps.getD t undef=v) (hg:w.heap[g]? = some (.cells cs tt fr))
    (hu:Pr.underlying ty=some d) (hd:(match d with | .struct _ | .array _ _=>true | _=>false)=true) (hi:(Pr.info? ty).map (·.size)=some cs.size) :
    (results fn tmps).run Pr w=.ok (.tuple #[.agg cs,v]) w:=by
  have hp':tmps[q]?.getD undef=.pointer (some ⟨g,0,none⟩):=by simpa using hp
  have ht':tmps[t]?.getD undef=v:=by simpa using ht
  simp [results,h,hp',ht',asAddr,run_loadVar_row w g tt ty cs fr d hg hu hd hi]
set_option maxRecDepth 100000 in
theorem root (a : Int) (ha:isN a) (w:World):Calls Tryd.prog 71 #[num a] w (Ret w (.tuple #[num (Qd2 a),.bool (QbU a)])):=by
  have HE1:Hid (∀ w,Calls Tryd.prog 93 #[.int .u8 254,.int .u8 15] w (Ret w (.agg (ints .u8 (expo 254 15))))):=Lib.hid (exponent 254 15)
  have HB1:Hid (∀ w,Calls Tryd.prog 46 #[.agg (ints .u8 (expo 254 15))] w (QfT w (QeJ (expo 254 15)))):=Lib.hid (QfO _)
  have HP1:Hid (∀ v w,QeJ (expo 254 15) v w→Calls Tryd.prog 92 #[num a,v] w (Ret w (num (Qbg a)))):=Lib.hid fun v w hv=>power a ha (expo 254 15) (QeB _ _) (QeS _ _ (by decide) (by decide)) v w hv
  have HE2:Hid (∀ w,Calls Tryd.prog 93 #[.int .u8 251,.int .u8 31] w (Ret w (.agg (ints .u8 (expo 251 31))))):=Lib.hid (exponent 251 31)
  have HB2:Hid (∀ w,Calls Tryd.prog 46 #[.agg (ints .u8 (expo 251 31))] w (QfT w (QeJ (expo 251 31)))):=Lib.hid (QfO _)
  have HP2:Hid (∀ v w,QeJ (expo 251 31) v w→Calls Tryd.prog 92 #[num 2,v] w (Ret w (num QbO))):=Lib.hid fun v w hv=>power 2 Qoa (expo 251 31) (QeB _ _) (QeS _ _ (by decide) (by decide)) v w hv
  have HS2:Hid (∀ w,Calls Tryd.prog 67 #[.int .i64 2] w (Ret w (num 2))):=Lib.hid fun w=>by have:=Qf0 2 (by decide) w; rw [show (2:Int)%p=2 by decide] at this; exact this
  have i_ra:=Qey a
  have i_rb:isN (Qbg a*QbO%p):=Qa0 _
  have HM0:Hid (∀ w,Calls Tryd.prog 66 #[num (Qbg a),num (Qbg a)] w (Ret w (num (Qbg a*Qbg a%p)))):=Lib.hid (mul _ _ i_ra i_ra)
  have HMI:Hid (∀ w,Calls Tryd.prog 66 #[num (Qbg a),num QbO] w (Ret w (num (Qbg a*QbO%p)))):=Lib.hid (mul _ _ i_ra Qk1)
  have HM1:Hid (∀ w,Calls Tryd.prog 66 #[num (Qbg a*QbO%p),num (Qbg a*QbO%p)] w (Ret w (num (Qbg a*QbO%p*(Qbg a*QbO%p)%p)))):=Lib.hid (mul _ _ i_rb i_rb)
  have i_s0:isN (Qbg a*Qbg a%p):=Qa0 _
  have i_s1:isN (Qbg a*QbO%p*(Qbg a*QbO%p)%p):=Qa0 _
  have FN:Hid (Qd2 a=(if Qbg a*Qbg a%p=a then Qbl (Qbg a) else if Qbg a*QbO%p*(Qbg a*QbO%p)%p=a then Qbl (Qbg a*QbO%p) else 0)):=Lib.hid rfl
  have FB:Hid (QbU a=(decide (Qbg a*Qbg a%p=a) || decide (Qbg a*QbO%p*(Qbg a*QbO%p)%p=a))):=Lib.hid rfl
  generalize hs0:Qbg a*Qbg a%p=s0 at *
  generalize hs1:Qbg a*QbO%p*(Qbg a*QbO%p)%p=s1 at *
  clear hs0 hs1
  generalize Qbg a*QbO%p=rb at *
  generalize Qbg a=ra at *
  generalize QbO=ri at *
  generalize expo 254 15=x1 at *
  generalize expo 251 31=x2 at *
  rw [show num a=.agg (numA a) from rfl]
  go_enter Tryd.func71,Tryd.ntmps71
  go_wp2_with fail
  generalize hW:(w.alloc _).alloc _=W0
  have hA:W0.heap[w.heap.size]? = some (.cells (numA a) 49):=by rw [←hW]; exact Qfu _ _ _
  have hC:∃ b:Array Value,b.size=4∧W0.heap[w.heap.size+1]? = some (.cells b 49):=by rw [←hW]; exact ⟨_,rfl,Qft _ _ _⟩
  obtain ⟨b,hbs,hC⟩:=hC
  have he:Ext w W0:=by rw [←hW]; exact Ext.trans (QaJ _ _) (QaJ _ _)
  clear hW
  have hsz:=he.size
  have hlC:=Qa3 hC
  have HA:Hid (∀ W,Ext W0.drew W→W.heap[w.heap.size]? = some (.cells (numA a) 49)):=Lib.hid fun W hR=>Qaa (Qaa hA (Qai _)) hR
  refine Qa8 Ext 5 34 [⟨none,[(1,none)]⟩,⟨none,[]⟩,⟨none,[(6,some 1)]⟩,⟨none,[(5,some 0),(7,some 2)]⟩,⟨none,[]⟩] kj kj rfl Ext.refl Ext.trans (fun F r0 hr hF=>?_)
  have f1:r0 1=.pointer (some ⟨w.heap.size,0,none⟩):=by rw [hr]; rfl
  clear hr
  simp only [List.take_succ_cons,List.take_zero]
  refine Qay (num a) (fun ρ W hR hh=>?_) ?_
  · clear hF
    exact QbA (.tmp _) rfl _ _ (Eq.trans hh.1 f1) (HA.out W hR)
  refine Qay (.agg (ints .u8 x1)) (fun ρ W hR hh=>?_) ?_
  · clear hF
    simp only [guarded,QaU]
    go_simp
    exact ⟨Ext.refl _,(HE1.out _).mono fun _ _ h=>h.const⟩
  refine Qet (QeJ x1) (QdH x1) (fun ρ W hR hh=>?_) ?_
  · clear hF
    have h6:ρ 6=.agg (ints .u8 x1):=hh.1
    simp only [guarded,QaU]
    go_simp
    exact ⟨Ext.refl _,(HB1.out _).mono fun _ _ h=>h.fact⟩
  refine Qay (num ra) (fun ρ W hR hh=>?_) ?_
  · clear hF
    have h5:ρ 5=num a:=hh.1
    have h7:QeJ x1 (ρ 7) W:=hh.2.1
    simp only [guarded,QaU]
    go_simp
    exact ⟨Ext.refl _,(HP1.out _ _ h7).mono fun _ _ h=>h.const⟩
  refine Qet (QnP 49 4 W0.heap.size) (QgU _ _ _) (fun ρ W hR hh=>?_) ?_
  · have hsz:W0.heap.size≤W.heap.size:=hR.size
    simp only [guarded,QaU]
    go_simp
    exact ⟨QaJ _ _,_,rfl,by omega,by simp,_,rfl,heap_alloc_new _ _⟩
  simp only [List.cons_append,List.nil_append]
  refine hF.out fun W1 hR1=>?_
  simp only [List.take_succ_cons,List.take_zero,List.drop_succ_cons,List.drop_zero,fin,forall_eq,Act.put,List.setIfInBounds_toArray,List.set_cons_zero,List.set_cons_succ]
  rintro vb-vg ⟨gr,rfl,lg,ug,cg,sg,kg⟩
  clear hF f1
  refine wpList_store_row rfl 49 _ _ rfl gr (numA ra) rfl rfl 49 _ kg QaS sg (Qb3 _) ?_
  have hE1:=Ext.trans (Qai W0) hR1
  have hr1:=setRow_heap _ _ _ (numA ra) _ _ kg
  have hA1:=(setRow_other W1 gr w.heap.size (numA ra) (by omega)).trans (Qaa hA hE1)
  have hs1:=(setRow_other W1 gr (w.heap.size+1) (numA ra) (by omega)).trans (Qaa hC hE1)
  have he1:=QaO (Ext.trans he hE1) (show w.heap.size≤gr by omega) (numA ra)
  have hgr:w.heap.size+1<gr:=by omega
  clear kg hR1 hE1 HA hA hC he lg ug sg hsz hlC HE1 HB1 HP1
  generalize W1.setRow gr (numA ra)=V1 at *
  have HA:Hid (∀ W,Ext V1.drew W→W.heap[w.heap.size]? = some (.cells (numA a) 49)):=Lib.hid fun W hR=>Qaa (Qaa hA1 (Qai _)) hR
  have HR:Hid (∀ W,Ext V1.drew W→W.heap[gr]? = some (.cells (numA ra) 49)):=Lib.hid fun W hR=>Qaa (Qaa hr1 (Qai _)) hR
  by_cases hz:s0=a
  · have HQ:Hid (∀ w,Calls Tryd.prog 94 #[num s0,num a] w (Ret w (.bool true))):=Lib.hid (QnC s0 a hz i_s0)
    have HM:=HM0
    have FIN:Hid (Qd2 a=Qbl ra∧QbU a=true):=Lib.hid ⟨by rw [FN.out,if_pos hz],by rw [FB.out,decide_eq_true hz]; rfl⟩
    clear hz FN FB HM1 HMI HP2 HE2 HB2 HS2
    go_wp2
    refine Qa8 Ext 5 34 [⟨none,[(4,none)]⟩,⟨none,[(4,none)]⟩,⟨none,[(9,some 0),(10,some 1)]⟩,⟨none,[(1,none)]⟩,⟨none,[(11,some 2),(12,some 3)]⟩] kj kj rfl Ext.refl Ext.trans (fun F r0 hr hF=>?_)
    have f4:r0 4=.pointer (some ⟨gr,0,none⟩):=by rw [hr]; rfl
    have f1:r0 1=.pointer (some ⟨w.heap.size,0,none⟩):=by rw [hr]; rfl
    clear hr
    simp only [List.take_succ_cons,List.take_zero]
    refine Qay (num ra) (fun ρ W hR hh=>?_) ?_
    · clear hF
      have h4:ρ 4=.pointer (some ⟨gr,0,none⟩):=Eq.trans hh.1 f4
      exact QbA (.tmp _) rfl _ _  h4 (HR.out W hR)
    refine Qay (num ra) (fun ρ W hR hh=>?_) ?_
    · clear hF
      have h4:ρ 4=.pointer (some ⟨gr,0,none⟩):=Eq.trans hh.1 f4
      exact QbA (.tmp _) rfl _ _  h4 (HR.out W hR)
    refine Qay (num s0) (fun ρ W hR hh=>?_) ?_
    · clear hF
      have h9:ρ 9=num ra:=hh.1
      have h10:ρ 10=num ra:=hh.2.1
      simp only [guarded,QaU]
      go_simp
      exact ⟨Ext.refl _,(HM.out _).mono fun _ _ h=>h.const⟩
    refine Qay (num a) (fun ρ W hR hh=>?_) ?_
    · clear hF
      have h1:ρ 1=.pointer (some ⟨w.heap.size,0,none⟩):=Eq.trans hh.1 f1
      exact QbA (.tmp _) rfl _ _  h1 (HA.out W hR)
    refine Qay (.bool true) (fun ρ W hR hh=>?_) ?_
    · clear hF
      have h11:ρ 11=num s0:=hh.1
      have h12:ρ 12=num a:=hh.2.1
      simp only [guarded,QaU]
      go_simp
      exact ⟨Ext.refl _,(HQ.out _).mono fun _ _ h=>h.const⟩
    simp only [List.cons_append,List.nil_append]
    refine hF.out fun W2 hR2=>?_
    simp only [List.take_succ_cons,List.take_zero,List.drop_succ_cons,List.drop_zero,fin,forall_eq,Act.put,List.setIfInBounds_toArray,List.set_cons_zero,List.set_cons_succ]
    clear hF
    have hr2:=Qaa (Qaa hr1 (Qai _)) hR2
    have hA2:=Qaa (Qaa hA1 (Qai _)) hR2
    have hs2:=Qaa (Qaa hs1 (Qai _)) hR2
    have he2:=Ext.trans (Ext.trans he1 (Qai _)) hR2
    clear HA HR hR2 hr1 hA1 hs1 he1
    have HA:Hid (∀ W,Ext W2.drew W→W.heap[w.heap.size]? = some (.cells (numA a) 49)):=Lib.hid fun W hR=>Qaa (Qaa hA2 (Qai _)) hR
    have HR:Hid (∀ W,Ext W2.drew W→W.heap[gr]? = some (.cells (numA ra) 49)):=Lib.hid fun W hR=>Qaa (Qaa hr2 (Qai _)) hR
    go_wp2
    refine Qa8 Ext 5 34 [⟨none,[(4,none)]⟩,⟨none,[(4,none)]⟩,⟨none,[(21,some 0),(22,some 1)]⟩,⟨none,[(1,none)]⟩,⟨none,[(23,some 2),(24,some 3)]⟩] kj kj rfl Ext.refl Ext.trans (fun F r0 hr hF=>?_)
    have f4:r0 4=.pointer (some ⟨gr,0,none⟩):=by rw [hr]; rfl
    have f1:r0 1=.pointer (some ⟨w.heap.size,0,none⟩):=by rw [hr]; rfl
    clear hr
    simp only [List.take_succ_cons,List.take_zero]
    refine Qay (num ra) (fun ρ W hR hh=>?_) ?_
    · clear hF
      have h4:ρ 4=.pointer (some ⟨gr,0,none⟩):=Eq.trans hh.1 f4
      exact QbA (.tmp _) rfl _ _  h4 (HR.out W hR)
    refine Qay (num ra) (fun ρ W hR hh=>?_) ?_
    · clear hF
      have h4:ρ 4=.pointer (some ⟨gr,0,none⟩):=Eq.trans hh.1 f4
      exact QbA (.tmp _) rfl _ _  h4 (HR.out W hR)
    refine Qay (num s0) (fun ρ W hR hh=>?_) ?_
    · clear hF
      have h21:ρ 21=num ra:=hh.1
      have h22:ρ 22=num ra:=hh.2.1
      simp only [guarded,QaU]
      go_simp
      exact ⟨Ext.refl _,(HM.out _).mono fun _ _ h=>h.const⟩
    refine Qay (num a) (fun ρ W hR hh=>?_) ?_
    · clear hF
      have h1:ρ 1=.pointer (some ⟨w.heap.size,0,none⟩):=Eq.trans hh.1 f1
      exact QbA (.tmp _) rfl _ _  h1 (HA.out W hR)
    refine Qay (.bool true) (fun ρ W hR hh=>?_) ?_
    · clear hF
      have h23:ρ 23=num s0:=hh.1
      have h24:ρ 24=num a:=hh.2.1
      simp only [guarded,QaU]
      go_simp
      exact ⟨Ext.refl _,(HQ.out _).mono fun _ _ h=>h.const⟩
    simp only [List.cons_append,List.nil_append]
    refine hF.out fun W4 hR4=>?_
    simp only [List.take_succ_cons,List.take_zero,List.drop_succ_cons,List.drop_zero,fin,forall_eq,Act.put,List.setIfInBounds_toArray,List.set_cons_zero,List.set_cons_succ]
    clear hF
    have hr4:=Qaa (Qaa hr2 (Qai _)) hR4
    have hA4:=Qaa (Qaa hA2 (Qai _)) hR4
    have hs4:=Qaa (Qaa hs2 (Qai _)) hR4
    have he4:=Ext.trans (Ext.trans he2 (Qai _)) hR4
    clear HA HR hR4 hr2 hA2 hs2 he2
    by_cases ho:ra%2=1
    · have HO:Hid (∀ w,Calls Tryd.prog 51 #[.agg (numA ra)] w (Ret w (.bool true))):=Lib.hid fun w=>by
        have:=odd ra i_ra w
        rw [ho] at this
        exact this
      have HN:Hid (∀ w,Calls Tryd.prog 69 #[.agg #[.int .u64 0,.int .u64 0,.int .u64 0,.int .u64 0],.agg (numA ra)] w (Ret w (.agg (numA (Qbl ra))))):=Lib.hid fun w=>by
        have:=sub 0 ra Qem i_ra w
        rw [show (0-ra)%p=Qbl ra by unfold Qbl; rw [if_pos ho]] at this
        exact this
      generalize hev:Qbl ra=ev at *
      clear ho
      go_wp2_with first
        | (go_at_call 51
           (with_reducible refine (HO.out _).mono ?_)
           rintro e w6 ⟨rfl,hw6⟩
           clear HO
           have hr6:=Qaa hr4 hw6
           have hs6:=Qaa hs4 hw6
           have he6:=Ext.trans he4 hw6
           clear hr4 hs4 he4 hw6)
        | (go_at_call 69
           (with_reducible refine (HN.out _).mono ?_)
           rintro e w7 ⟨rfl,hw7⟩
           clear HN
           have hr7:=Qaa hr6 hw7
           have hs7:=Qaa hs6 hw7
           have he7:=Ext.trans he6 hw7
           clear hr6 hs6 he6 hw7)
        | (with_reducible show wpList _ _ _ ((⟨_,.load 49 _,_,_,_,_⟩:Oper)::_) _ _
           refine wpList_load_row rfl 49 _ rfl gr rfl 49 _ (0,0) _ hr4 Tryd.underlying49 rfl QaS ?_)
        | (with_reducible show wpList _ _ _ ((⟨_,.load 49 _,_,_,_,_⟩:Oper)::_) _ _
           refine wpList_load_row rfl 49 _ rfl gr rfl 49 _ (0,0) _ hr6 Tryd.underlying49 rfl QaS ?_)
        | (with_reducible show wpList _ _ _ ((⟨_,.load 49 _,_,_,_,_⟩:Oper)::_) _ _
           refine wpList_load_row rfl 49 _ rfl gr rfl 49 _ (0,0) _ hr8 Tryd.underlying49 rfl QaS ?_)
        | (with_reducible show wpList _ _ _ ((⟨_,.store 49 _ _,_,_,_,_⟩:Oper)::_) _ _
           refine wpList_store_row rfl 49 _ _ rfl gr (numA ev) rfl rfl 49 _ hr7 QaS rfl (Qb3 _) ?_
           have hr8:=setRow_heap _ _ _ (numA ev) _ _ hr7
           have hs8:=(setRow_other w7 gr (w.heap.size+1) (numA ev) (by omega)).trans hs7
           have he8:=QaO he7 (show w.heap.size≤gr by omega) (numA ev)
           clear hr7)
        | (with_reducible show wpList _ _ _ ((⟨_,.store 49 _ _,_,_,_,_⟩:Oper)::_) _ _
           refine wpList_store_row rfl 49 _ _ rfl (w.heap.size+1) (numA ev) rfl rfl 49 _ hs8 QaS hbs (Qb3 _) ?_)
      exact bodyPost_ret (QbP rfl _ _ (w.heap.size+1) 49 _ (0,0) _ rfl _ rfl (setRow_heap _ _ _ _ _ _ hs8) Tryd.underlying49 rfl QaS) rfl ⟨by rw [FIN.out.1,FIN.out.2]; rfl,QaO he8 (by omega) _⟩
    · have HO:Hid (∀ w,Calls Tryd.prog 51 #[.agg (numA ra)] w (Ret w (.bool false))):=Lib.hid fun w=>by
        have:=odd ra i_ra w
        rw [show (ra%2==1)=false by simpa using ho] at this
        exact this
      have hev:Qbl ra=ra:=by unfold Qbl; rw [if_neg ho]
      clear ho
      have HEV:=Lib.hid hev
      clear hev
      go_wp2_with first
        | (go_at_call 51
           (with_reducible refine (HO.out _).mono ?_)
           rintro e w6 ⟨rfl,hw6⟩
           clear HO
           have hr6:=Qaa hr4 hw6
           have hs6:=Qaa hs4 hw6
           have he6:=Ext.trans he4 hw6
           clear hr4 hs4 he4 hw6)
        | (with_reducible show wpList _ _ _ ((⟨_,.load 49 _,_,_,_,_⟩:Oper)::_) _ _
           refine wpList_load_row rfl 49 _ rfl gr rfl 49 _ (0,0) _ hr4 Tryd.underlying49 rfl QaS ?_)
        | (with_reducible show wpList _ _ _ ((⟨_,.load 49 _,_,_,_,_⟩:Oper)::_) _ _
           refine wpList_load_row rfl 49 _ rfl gr rfl 49 _ (0,0) _ hr6 Tryd.underlying49 rfl QaS ?_)
        | (with_reducible show wpList _ _ _ ((⟨_,.store 49 _ _,_,_,_,_⟩:Oper)::_) _ _
           refine wpList_store_row rfl 49 _ _ rfl (w.heap.size+1) (numA ra) rfl rfl 49 _ hs6 QaS hbs (Qb3 _) ?_)
      exact bodyPost_ret (QbP rfl _ _ (w.heap.size+1) 49 _ (0,0) _ rfl _ rfl (setRow_heap _ _ _ _ _ _ hs6) Tryd.underlying49 rfl QaS) rfl ⟨by rw [FIN.out.1,FIN.out.2,HEV.out]; rfl,QaO he6 (by omega) _⟩
  · have HQ0:Hid (∀ w,Calls Tryd.prog 94 #[num s0,num a] w (Ret w (.bool false))):=Lib.hid (Qja s0 a hz i_s0 ha)
    have HZ:=Lib.hid hz
    clear hz
    have HQ:=HQ0
    have HM:=HM0
    go_wp2
    refine Qa8 Ext 5 34 [⟨none,[(4,none)]⟩,⟨none,[(4,none)]⟩,⟨none,[(9,some 0),(10,some 1)]⟩,⟨none,[(1,none)]⟩,⟨none,[(11,some 2),(12,some 3)]⟩] kj kj rfl Ext.refl Ext.trans (fun F r0 hr hF=>?_)
    have f4:r0 4=.pointer (some ⟨gr,0,none⟩):=by rw [hr]; rfl
    have f1:r0 1=.pointer (some ⟨w.heap.size,0,none⟩):=by rw [hr]; rfl
    clear hr
    simp only [List.take_succ_cons,List.take_zero]
    refine Qay (num ra) (fun ρ W hR hh=>?_) ?_
    · clear hF
      have h4:ρ 4=.pointer (some ⟨gr,0,none⟩):=Eq.trans hh.1 f4
      exact QbA (.tmp _) rfl _ _  h4 (HR.out W hR)
    refine Qay (num ra) (fun ρ W hR hh=>?_) ?_
    · clear hF
      have h4:ρ 4=.pointer (some ⟨gr,0,none⟩):=Eq.trans hh.1 f4
      exact QbA (.tmp _) rfl _ _  h4 (HR.out W hR)
    refine Qay (num s0) (fun ρ W hR hh=>?_) ?_
    · clear hF
      have h9:ρ 9=num ra:=hh.1
      have h10:ρ 10=num ra:=hh.2.1
      simp only [guarded,QaU]
      go_simp
      exact ⟨Ext.refl _,(HM.out _).mono fun _ _ h=>h.const⟩
    refine Qay (num a) (fun ρ W hR hh=>?_) ?_
    · clear hF
      have h1:ρ 1=.pointer (some ⟨w.heap.size,0,none⟩):=Eq.trans hh.1 f1
      exact QbA (.tmp _) rfl _ _  h1 (HA.out W hR)
    refine Qay (.bool false) (fun ρ W hR hh=>?_) ?_
    · clear hF
      have h11:ρ 11=num s0:=hh.1
      have h12:ρ 12=num a:=hh.2.1
      simp only [guarded,QaU]
      go_simp
      exact ⟨Ext.refl _,(HQ.out _).mono fun _ _ h=>h.const⟩
    simp only [List.cons_append,List.nil_append]
    refine hF.out fun W2 hR2=>?_
    simp only [List.take_succ_cons,List.take_zero,List.drop_succ_cons,List.drop_zero,fin,forall_eq,Act.put,List.setIfInBounds_toArray,List.set_cons_zero,List.set_cons_succ]
    clear hF
    have hr2:=Qaa (Qaa hr1 (Qai _)) hR2
    have hA2:=Qaa (Qaa hA1 (Qai _)) hR2
    have hs2:=Qaa (Qaa hs1 (Qai _)) hR2
    have he2:=Ext.trans (Ext.trans he1 (Qai _)) hR2
    clear HA HR hR2 hr1 hA1 hs1 he1
    clear HQ HM HQ0 HM0
    go_wp2
    have HR:Hid (∀ W,Ext W2.drew W→W.heap[gr]? = some (.cells (numA ra) 49)):=Lib.hid fun W hR=>Qaa (Qaa hr2 (Qai _)) hR
    refine Qa8 Ext 6 34 [⟨none,[(4,none)]⟩,⟨none,[]⟩,⟨none,[]⟩,⟨none,[(17,some 2)]⟩,⟨none,[(16,some 1),(18,some 3)]⟩,⟨none,[(15,some 0),(19,some 4)]⟩] kj kj rfl Ext.refl Ext.trans (fun F r0 hr hF=>?_)
    have f4:r0 4=.pointer (some ⟨gr,0,none⟩):=by rw [hr]; rfl
    clear hr
    simp only [List.take_succ_cons,List.take_zero]
    refine Qay (num ra) (fun ρ W hR hh=>?_) ?_
    · clear hF
      exact QbA (.tmp _) rfl _ _ (Eq.trans hh.1 f4) (HR.out W hR)
    refine Qay (num 2) (fun ρ W hR hh=>?_) ?_
    · clear hF
      simp only [guarded,QaU]
      go_simp
      exact ⟨Ext.refl _,(HS2.out _).mono fun _ _ h=>h.const⟩
    refine Qay (.agg (ints .u8 x2)) (fun ρ W hR hh=>?_) ?_
    · clear hF
      simp only [guarded,QaU]
      go_simp
      exact ⟨Ext.refl _,(HE2.out _).mono fun _ _ h=>h.const⟩
    refine Qet (QeJ x2) (QdH x2) (fun ρ W hR hh=>?_) ?_
    · clear hF
      have h17:ρ 17=.agg (ints .u8 x2):=hh.1
      simp only [guarded,QaU]
      go_simp
      exact ⟨Ext.refl _,(HB2.out _).mono fun _ _ h=>h.fact⟩
    refine Qay (num ri) (fun ρ W hR hh=>?_) ?_
    · clear hF
      have h16:ρ 16=num 2:=hh.1
      have h18:QeJ x2 (ρ 18) W:=hh.2.1
      simp only [guarded,QaU]
      go_simp
      exact ⟨Ext.refl _,(HP2.out _ _ h18).mono fun _ _ h=>h.const⟩
    refine Qay (num rb) (fun ρ W hR hh=>?_) ?_
    · clear hF
      have h15:ρ 15=num ra:=hh.1
      have h19:ρ 19=num ri:=hh.2.1
      simp only [guarded,QaU]
      go_simp
      exact ⟨Ext.refl _,(HMI.out _).mono fun _ _ h=>h.const⟩
    simp only [List.cons_append,List.nil_append]
    refine hF.out fun W3 hR3=>?_
    simp only [List.take_succ_cons,List.take_zero,List.drop_succ_cons,List.drop_zero,fin,forall_eq,Act.put,List.setIfInBounds_toArray,List.set_cons_zero,List.set_cons_succ]
    intro vb hvb
    clear hF f4 hvb
    have hr3:=Qaa (Qaa hr2 (Qai _)) hR3
    refine wpList_store_row rfl 49 _ _ rfl gr (numA rb) rfl rfl 49 _ hr3 QaS rfl (Qb3 _) ?_
    have hr5:=setRow_heap _ _ _ (numA rb) _ _ hr3
    have hA5:=(setRow_other W3 gr w.heap.size (numA rb) (by omega)).trans (Qaa (Qaa hA2 (Qai _)) hR3)
    have hs5:=(setRow_other W3 gr (w.heap.size+1) (numA rb) (by omega)).trans (Qaa (Qaa hs2 (Qai _)) hR3)
    have he5:=QaO (Ext.trans (Ext.trans he2 (Qai _)) hR3) (show w.heap.size≤gr by omega) (numA rb)
    clear hr3 hr2 hA2 hs2 he2 hR3 HR HS2 HE2 HB2 HP2 HMI
    generalize W3.setRow gr (numA rb)=V5 at *
    have HA:Hid (∀ W,Ext V5.drew W→W.heap[w.heap.size]? = some (.cells (numA a) 49)):=Lib.hid fun W hR=>Qaa (Qaa hA5 (Qai _)) hR
    have HR:Hid (∀ W,Ext V5.drew W→W.heap[gr]? = some (.cells (numA rb) 49)):=Lib.hid fun W hR=>Qaa (Qaa hr5 (Qai _)) hR
    have HM:=HM1
    by_cases hz:s1=a
    · have HQ:Hid (∀ w,Calls Tryd.prog 94 #[num s1,num a] w (Ret w (.bool true))):=Lib.hid (QnC s1 a hz i_s1)
      have FIN:Hid (Qd2 a=Qbl rb∧QbU a=true):=Lib.hid ⟨by rw [FN.out,if_neg HZ.out,if_pos hz],by rw [FB.out,decide_eq_true hz,Bool.or_true]⟩
      clear hz FN FB HZ
      go_wp2
      refine Qa8 Ext 5 34 [⟨none,[(4,none)]⟩,⟨none,[(4,none)]⟩,⟨none,[(21,some 0),(22,some 1)]⟩,⟨none,[(1,none)]⟩,⟨none,[(23,some 2),(24,some 3)]⟩] kj kj rfl Ext.refl Ext.trans (fun F r0 hr hF=>?_)
      have f4:r0 4=.pointer (some ⟨gr,0,none⟩):=by rw [hr]; rfl
      have f1:r0 1=.pointer (some ⟨w.heap.size,0,none⟩):=by rw [hr]; rfl
      clear hr
      simp only [List.take_succ_cons,List.take_zero]
      refine Qay (num rb) (fun ρ W hR hh=>?_) ?_
      · clear hF
        have h4:ρ 4=.pointer (some ⟨gr,0,none⟩):=Eq.trans hh.1 f4
        exact QbA (.tmp _) rfl _ _  h4 (HR.out W hR)
      refine Qay (num rb) (fun ρ W hR hh=>?_) ?_
      · clear hF
        have h4:ρ 4=.pointer (some ⟨gr,0,none⟩):=Eq.trans hh.1 f4
        exact QbA (.tmp _) rfl _ _  h4 (HR.out W hR)
      refine Qay (num s1) (fun ρ W hR hh=>?_) ?_
      · clear hF
        have h21:ρ 21=num rb:=hh.1
        have h22:ρ 22=num rb:=hh.2.1
        simp only [guarded,QaU]
        go_simp
        exact ⟨Ext.refl _,(HM.out _).mono fun _ _ h=>h.const⟩
      refine Qay (num a) (fun ρ W hR hh=>?_) ?_
      · clear hF
        have h1:ρ 1=.pointer (some ⟨w.heap.size,0,none⟩):=Eq.trans hh.1 f1
        exact QbA (.tmp _) rfl _ _  h1 (HA.out W hR)
      refine Qay (.bool true) (fun ρ W hR hh=>?_) ?_
      · clear hF
        have h23:ρ 23=num s1:=hh.1
        have h24:ρ 24=num a:=hh.2.1
        simp only [guarded,QaU]
        go_simp
        exact ⟨Ext.refl _,(HQ.out _).mono fun _ _ h=>h.const⟩
      simp only [List.cons_append,List.nil_append]
      refine hF.out fun W4 hR4=>?_
      simp only [List.take_succ_cons,List.take_zero,List.drop_succ_cons,List.drop_zero,fin,forall_eq,Act.put,List.setIfInBounds_toArray,List.set_cons_zero,List.set_cons_succ]
      clear hF
      have hr4:=Qaa (Qaa hr5 (Qai _)) hR4
      have hA4:=Qaa (Qaa hA5 (Qai _)) hR4
      have hs4:=Qaa (Qaa hs5 (Qai _)) hR4
      have he4:=Ext.trans (Ext.trans he5 (Qai _)) hR4
      clear HA HR hR4 hr5 hA5 hs5 he5
      by_cases ho:rb%2=1
      · have HO:Hid (∀ w,Calls Tryd.prog 51 #[.agg (numA rb)] w (Ret w (.bool true))):=Lib.hid fun w=>by
          have:=odd rb i_rb w
          rw [ho] at this
          exact this
        have HN:Hid (∀ w,Calls Tryd.prog 69 #[.agg #[.int .u64 0,.int .u64 0,.int .u64 0,.int .u64 0],.agg (numA rb)] w (Ret w (.agg (numA (Qbl rb))))):=Lib.hid fun w=>by
          have:=sub 0 rb Qem i_rb w
          rw [show (0-rb)%p=Qbl rb by unfold Qbl; rw [if_pos ho]] at this
          exact this
        generalize hev:Qbl rb=ev at *
        clear ho
        go_wp2_with first
          | (go_at_call 51
             (with_reducible refine (HO.out _).mono ?_)
             rintro e w6 ⟨rfl,hw6⟩
             clear HO
             have hr6:=Qaa hr4 hw6
             have hs6:=Qaa hs4 hw6
             have he6:=Ext.trans he4 hw6
             clear hr4 hs4 he4 hw6)
          | (go_at_call 69
             (with_reducible refine (HN.out _).mono ?_)
             rintro e w7 ⟨rfl,hw7⟩
             clear HN
             have hr7:=Qaa hr6 hw7
             have hs7:=Qaa hs6 hw7
             have he7:=Ext.trans he6 hw7
             clear hr6 hs6 he6 hw7)
          | (with_reducible show wpList _ _ _ ((⟨_,.load 49 _,_,_,_,_⟩:Oper)::_) _ _
             refine wpList_load_row rfl 49 _ rfl gr rfl 49 _ (0,0) _ hr4 Tryd.underlying49 rfl QaS ?_)
          | (with_reducible show wpList _ _ _ ((⟨_,.load 49 _,_,_,_,_⟩:Oper)::_) _ _
             refine wpList_load_row rfl 49 _ rfl gr rfl 49 _ (0,0) _ hr6 Tryd.underlying49 rfl QaS ?_)
          | (with_reducible show wpList _ _ _ ((⟨_,.load 49 _,_,_,_,_⟩:Oper)::_) _ _
             refine wpList_load_row rfl 49 _ rfl gr rfl 49 _ (0,0) _ hr8 Tryd.underlying49 rfl QaS ?_)
          | (with_reducible show wpList _ _ _ ((⟨_,.store 49 _ _,_,_,_,_⟩:Oper)::_) _ _
             refine wpList_store_row rfl 49 _ _ rfl gr (numA ev) rfl rfl 49 _ hr7 QaS rfl (Qb3 _) ?_
             have hr8:=setRow_heap _ _ _ (numA ev) _ _ hr7
             have hs8:=(setRow_other w7 gr (w.heap.size+1) (numA ev) (by omega)).trans hs7
             have he8:=QaO he7 (show w.heap.size≤gr by omega) (numA ev)
             clear hr7)
          | (with_reducible show wpList _ _ _ ((⟨_,.store 49 _ _,_,_,_,_⟩:Oper)::_) _ _
             refine wpList_store_row rfl 49 _ _ rfl (w.heap.size+1) (numA ev) rfl rfl 49 _ hs8 QaS hbs (Qb3 _) ?_)
        exact bodyPost_ret (QbP rfl _ _ (w.heap.size+1) 49 _ (0,0) _ rfl _ rfl (setRow_heap _ _ _ _ _ _ hs8) Tryd.underlying49 rfl QaS) rfl ⟨by rw [FIN.out.1,FIN.out.2]; rfl,QaO he8 (by omega) _⟩
      · have HO:Hid (∀ w,Calls Tryd.prog 51 #[.agg (numA rb)] w (Ret w (.bool false))):=Lib.hid fun w=>by
          have:=odd rb i_rb w
          rw [show (rb%2==1)=false by simpa using ho] at this
          exact this
        have hev:Qbl rb=rb:=by unfold Qbl; rw [if_neg ho]
        clear ho
        have HEV:=Lib.hid hev
        clear hev
        go_wp2_with first
          | (go_at_call 51
             (with_reducible refine (HO.out _).mono ?_)
             rintro e w6 ⟨rfl,hw6⟩
             clear HO
             have hr6:=Qaa hr4 hw6
             have hs6:=Qaa hs4 hw6
             have he6:=Ext.trans he4 hw6
             clear hr4 hs4 he4 hw6)
          | (with_reducible show wpList _ _ _ ((⟨_,.load 49 _,_,_,_,_⟩:Oper)::_) _ _
             refine wpList_load_row rfl 49 _ rfl gr rfl 49 _ (0,0) _ hr4 Tryd.underlying49 rfl QaS ?_)
          | (with_reducible show wpList _ _ _ ((⟨_,.load 49 _,_,_,_,_⟩:Oper)::_) _ _
             refine wpList_load_row rfl 49 _ rfl gr rfl 49 _ (0,0) _ hr6 Tryd.underlying49 rfl QaS ?_)
          | (with_reducible show wpList _ _ _ ((⟨_,.store 49 _ _,_,_,_,_⟩:Oper)::_) _ _
             refine wpList_store_row rfl 49 _ _ rfl (w.heap.size+1) (numA rb) rfl rfl 49 _ hs6 QaS hbs (Qb3 _) ?_)
        exact bodyPost_ret (QbP rfl _ _ (w.heap.size+1) 49 _ (0,0) _ rfl _ rfl (setRow_heap _ _ _ _ _ _ hs6) Tryd.underlying49 rfl QaS) rfl ⟨by rw [FIN.out.1,FIN.out.2,HEV.out]; rfl,QaO he6 (by omega) _⟩
    · have HQ:Hid (∀ w,Calls Tryd.prog 94 #[num s1,num a] w (Ret w (.bool false))):=Lib.hid (Qja s1 a hz i_s1 ha)
      have FIN:Hid (Qd2 a=0∧QbU a=false):=Lib.hid ⟨by rw [FN.out,if_neg HZ.out,if_neg hz],by rw [FB.out,decide_eq_false HZ.out,decide_eq_false hz]; rfl⟩
      clear hz FN FB HZ
      go_wp2
      refine Qa8 Ext 5 34 [⟨none,[(4,none)]⟩,⟨none,[(4,none)]⟩,⟨none,[(21,some 0),(22,some 1)]⟩,⟨none,[(1,none)]⟩,⟨none,[(23,some 2),(24,some 3)]⟩] kj kj rfl Ext.refl Ext.trans (fun F r0 hr hF=>?_)
      have f4:r0 4=.pointer (some ⟨gr,0,none⟩):=by rw [hr]; rfl
      have f1:r0 1=.pointer (some ⟨w.heap.size,0,none⟩):=by rw [hr]; rfl
      clear hr
      simp only [List.take_succ_cons,List.take_zero]
      refine Qay (num rb) (fun ρ W hR hh=>?_) ?_
      · clear hF
        have h4:ρ 4=.pointer (some ⟨gr,0,none⟩):=Eq.trans hh.1 f4
        exact QbA (.tmp _) rfl _ _  h4 (HR.out W hR)
      refine Qay (num rb) (fun ρ W hR hh=>?_) ?_
      · clear hF
        have h4:ρ 4=.pointer (some ⟨gr,0,none⟩):=Eq.trans hh.1 f4
        exact QbA (.tmp _) rfl _ _  h4 (HR.out W hR)
      refine Qay (num s1) (fun ρ W hR hh=>?_) ?_
      · clear hF
        have h21:ρ 21=num rb:=hh.1
        have h22:ρ 22=num rb:=hh.2.1
        simp only [guarded,QaU]
        go_simp
        exact ⟨Ext.refl _,(HM.out _).mono fun _ _ h=>h.const⟩
      refine Qay (num a) (fun ρ W hR hh=>?_) ?_
      · clear hF
        have h1:ρ 1=.pointer (some ⟨w.heap.size,0,none⟩):=Eq.trans hh.1 f1
        exact QbA (.tmp _) rfl _ _  h1 (HA.out W hR)
      refine Qay (.bool false) (fun ρ W hR hh=>?_) ?_
      · clear hF
        have h23:ρ 23=num s1:=hh.1
        have h24:ρ 24=num a:=hh.2.1
        simp only [guarded,QaU]
        go_simp
        exact ⟨Ext.refl _,(HQ.out _).mono fun _ _ h=>h.const⟩
      simp only [List.cons_append,List.nil_append]
      refine hF.out fun W4 hR4=>?_
      simp only [List.take_succ_cons,List.take_zero,List.drop_succ_cons,List.drop_zero,fin,forall_eq,Act.put,List.setIfInBounds_toArray,List.set_cons_zero,List.set_cons_succ]
      clear hF
      have hr4:=Qaa (Qaa hr5 (Qai _)) hR4
      have hA4:=Qaa (Qaa hA5 (Qai _)) hR4
      have hs4:=Qaa (Qaa hs5 (Qai _)) hR4
      have he4:=Ext.trans (Ext.trans he5 (Qai _)) hR4
      clear HA HR hR4 hr5 hA5 hs5 he5
      go_wp2_with first
        | (with_reducible show wpList _ _ _ ((⟨_,.store 49 _ _,_,_,_,_⟩:Oper)::_) _ _
           refine wpList_store_row rfl 49 _ _ rfl (w.heap.size+1) (numA 0) rfl rfl 49 _ hs4 QaS hbs (Qb3 _) ?_)
      exact bodyPost_ret (QbP rfl _ _ (w.heap.size+1) 49 _ (0,0) _ rfl _ rfl (setRow_heap _ _ _ _ _ _ hs4) Tryd.underlying49 rfl QaS) rfl ⟨by rw [FIN.out.1,FIN.out.2]; rfl,QaO he4 (by omega) _⟩
end Go.Proofs.YtdoadngmgmdlbaaDoor.Field
end
section
namespace Go.Proofs.YtdoadngmgmdlbaaDoor.Field
open Go Go.RowKit
open Rely
end Go.Proofs.YtdoadngmgmdlbaaDoor.Field
end
section
namespace Go.Proofs.YtdoadngmgmdlbaaDoor.Field
open Go Go.RowKit
open Rely
end Go.Proofs.YtdoadngmgmdlbaaDoor.Field
end
section
namespace Go.Proofs.YtdoadngmgmdlbaaDoor.Field
open Go Go.RowKit Go.Shelf
open Rely
attribute [local go_sem] Oper.semAt_some
def encB (b : Bool):Value:=.int .i64 (if b then 1 else 0)
def bitB (es : List Int) (i:Nat):Bool:=QcR es i==1
def bitsB (es : List Int):List Bool:=(List.range 256).map fun j=>bitB es (255-j)
theorem Qjr (es : List Int) (i:Nat):encB (bitB es i)=.int .i64 (QcR es i):=by
  unfold encB bitB
  have:=QfQ es i
  by_cases h:QcR es i=1
  · simp [h]
  · have h0:QcR es i=0:=by omega
    simp [h0]
theorem QeH (es : List Int):(bitsB es).length=256:=by simp [bitsB]
theorem QeX (es : List Int) (j:Nat) (hj:j<256):(bitsB es).take (256-j)=(bitsB es).take (256-(j+1))++[bitB es j]:=by
  have e:256-j=(256-(j+1))+1:=by omega
  rw [e,List.take_add_one]
  congr 1
  have h:256-(j+1)<256:=by omega
  simp only [bitsB,List.getElem?_map,List.getElem?_range h,Option.map_some,Option.toList_some]
  rw [show 255-(256-(j+1))=j by omega]
set_option maxHeartbeats 2000000 in
theorem Qfd (m : Nat) (hm:1≤m) (kb:Nat) (es:List Int) (hel:es.length=32) (hb:Qal es) (w:World) (hkb:w.heap[kb]? = some (.cells (ints .u8 es) 23)) :
    SeqStopsK Fence.wide m Tryd.prog 82 #[.pointer (some ⟨kb,0,none⟩)] (fun x:Bool=>#[encB x]) (Same kb) (fun ys=>ys=bitsB es) (fun pre=>pre <+: bitsB es) 256 w:=fun l J Jx W hW hJ hJx hY h0=>by
  refine callsIn_of_wp Tryd.func82 rfl trivial ?_ rfl
  simp only [Tryd.ntmps82,List.size_toArray,List.length_cons,List.length_nil,Nat.reduceAdd,Nat.reduceSub,Array.replicate_succ,Array.replicate_zero,List.push_toArray,List.append_toArray,List.nil_append,List.cons_append]
  have hkW:W.heap[kb]? = some (.cells (ints .u8 es) 23):=(hW.block kb (Qa3 hkb)).trans hkb
  gi_wp2
  gi_loopw [3] (fun i wr=>∃ k:Nat,k≤256∧i=.int .i64 ((k:Int)-1)∧J ((bitsB es).take (256-k)) wr∧Same kb W wr) (fun i _=>(intOf i+1).toNat)
  case atStart=>exact ⟨256,by omega,rfl,by simpa using h0,Same.refl _ _⟩
  case round =>
    obtain ⟨k,hk256,rfl,hJs,hB⟩:=hrel
    rcases k with _ | j
    · gi_wp2
      go_end0
      exact ⟨⟨_,rfl⟩,.inl ⟨_,rfl,by rwa [List.take_of_length_le (by rw [QeH]; omega)] at hJs⟩⟩
    · have hj:j<256:=by omega
      rw [show ((j+1:Nat):Int)-1=(j:Int) by omega]
      have hkw:wr.heap[kb]? = some (.cells (ints .u8 es) 23):=hB.trans hkW
      have hX:(ints .u8 es)[j/8]? = some (.int .u8 (nth es (j/8))):=Qas _ _ _ (by omega)
      have hcx:=QaE hkw hX
      obtain ⟨fn,tmps,assign,body,hy,hR⟩:=hY _ (bitB es j) wr hJs (by rw [List.length_take,QeH]; omega)
      have hT:=Lib.hid (QeX es j hj)
      have b1:=hb.nth (j/8)
      rw [Qjr,show QcR es j=nth es (j/8)/2^(j%8)%2 from rfl] at hy
      generalize bitB es j=bt at *
      generalize nth es (j/8)=v at *
      have q0:(0:Int)≤(j:Int):=by omega
      have q1:(j:Int)/8<32:=by omega
      have q2:IntKind.i64.wrap ((j:Int)/8)=(j:Int)/8:=IntWalk.i64_in _ (by omega)
      have qm:(j:Int).tmod 8=(j:Int)%8:=Int.tmod_eq_emod_of_nonneg (by omega)
      have q3:IntKind.i64.wrap ((j:Int)%8)=(j:Int)%8:=IntWalk.i64_in _ (by omega)
      have q4:(0:Int)≤(j:Int)/8:=by omega
      have q5:((j:Int)/8).toNat=j/8:=by omega
      have q6:((j:Int)%8).toNat=j%8:=by omega
      have q7:(0:Int)≤(j:Int)%8:=by omega
      have q8:(j:Int)%8<8:=by omega
      have hp:(1:Int)≤2^(j%8):=by
        have:(0:Int)<2^(j%8):=Int.pow_pos (by decide)
        omega
      have d1:0≤v/2^(j%8):=Int.ediv_nonneg b1.1 (by omega)
      have d2:v/2^(j%8)≤v:=Int.ediv_le_self _ b1.1
      have w1:IntKind.i64.wrap (v/2^(j%8))=v/2^(j%8):=IntWalk.i64_in _ (by omega)
      have w2:=QiC (v/2^(j%8)) (by omega)
      gi_wp2
      refine hR.mono ?_
      rintro e W3 (⟨rfl,hJ3,hk3⟩ | ⟨rfl,hJx3⟩)
      · gi_wp2
        go_roundw
        case rel=>exact ⟨j,by omega,rfl,by rw [hT.out]; exact hJ3,hk3.trans hB⟩
        case measure=>simp [intOf]
      · gi_wp2
        refine bodyPost_ret (results_none rfl _ _ _) rfl ?_
        exact ⟨⟨_,rfl⟩,.inr ⟨_,by rw [←hT.out]; exact List.take_prefix _ _,hJx3⟩⟩
end Go.Proofs.YtdoadngmgmdlbaaDoor.Field
end
end
section
namespace Go.Proofs.YtdoadngmgmdlbaaDoor.Field
open Go Go.RowKit
open Rely Auto
theorem num_isN (n : Nat) (h:n<1000000:=by decide):isN (n:Int):=by unfold isN p; omega
theorem Qq4 {n : Int} (h:isN n):0≤n∧n≤p:=⟨h.1,Int.le_of_lt h.2⟩
theorem zlen : (List.replicate 32 (0:Int)).length=32:=by decide
theorem Qd6 (n : Int) (h:0≤n∧n<1000000) (w:World):Calls Tryd.prog 67 #[.int .i64 n] w (Ret w (num n)):=by
  have:=Qf0 n (by omega) w
  rw [show n%p=n from Int.emod_eq_of_lt h.1 (by unfold p; omega)] at this
  exact this
theorem QmM (x y:Int) (hx:isN x) (hy:isN y) (w:World):Calls Tryd.prog 73 #[lnum x,lnum y] w (Ret w (lnum ((x+y)%p))):=lAdd x y (Qdw hx) (Qdw hy) w
theorem Qpa (x y:Int) (hx:isN x) (hy:isN y) (w:World):Calls Tryd.prog 76 #[lnum x,lnum y] w (Ret w (lnum ((x-y)%p))):=lSub x y (Qdw hx) (Qq4 hy) w
theorem QdV (x y:Int) (hx:isN x) (hy:isN y) (w:World):Calls Tryd.prog 58 #[lnum x,lnum y] w (Ret w (lnum (x*y%p))):=lMul x y (Qdw hx) (Qdw hy) w
end Go.Proofs.YtdoadngmgmdlbaaDoor.Field
end
section
namespace Go.Proofs.YtdoadngmgmdlbaaDoor.Field
open Go Go.RowKit
open Rely Auto
theorem laidVars_at {P : Program} {w:World}:∀ (laid:List (String×DataW Unit)) (ps:List MemPlace) (n:String) (d:DataW Unit),DataW.LaidVars P w laid ps→(n,d)∈laid →
    ∃ g t cs fuel p,P.globalNamed n=some g∧(P.globals[g]?).map (·.type)=some t∧w.var? P n=some cs∧DataW.trod (fun _=>()) P w 0 (fun _=>true) false fuel t cs.toList=some (d,p)∧∀ x∈MemPlace.row ⟨g,0,none⟩ cs.size,x∈ps
  | [],_,_,_,_,h=>by cases h
  | (n0,d0)::r,ps,n,d,⟨g,t,cs,fuel,p,q,h1,h2,h3,h4,h5,h6⟩,h=>by
    subst h6
    rcases List.mem_cons.1 h with h | h
    · cases h
      exact ⟨g,t,cs,fuel,p,h1,h2,h3,h4,fun x hx=>List.mem_append_left _ (List.mem_append_left _ hx)⟩
    · obtain ⟨g',t',cs',fuel',p',a,b,c,e,f⟩:=laidVars_at r q n d h5 h
      exact ⟨g',t',cs',fuel',p',a,b,c,e,fun x hx=>List.mem_append_right _ (f x hx)⟩
theorem laid_row {P : Program} {w:World} {laid:List (String×DataW Unit)} {n:String} {k:IntKind} {zs:List Int} {g:Nat} {t e:TypeId} {m:Nat} (h:laidMet P laid w) (hm:(n,Lib.tabData k zs)∈laid)
    (hg:P.globalNamed n=some g) (hty:(P.globals[g]?).map (·.type)=some t) (ht:P.underlying t=some (.array m e)) (he:P.underlying e=some (.int k)) (hce:P.cellsOf e=1) (hct:P.cellsOf t=m) (h0:0<zs.length) :
    ∃ t,w.heap[g]? = some (.cells (ints k zs) t):=by
  obtain ⟨ps,hL,-,hC⟩:=h
  obtain ⟨g',t',cs,fuel,p,hg',ht',hvar,hd,hin⟩:=laidVars_at _ _ _ _ hL hm
  obtain rfl:=Option.some.inj (hg.symm.trans hg')
  obtain rfl:=Option.some.inj (hty.symm.trans ht')
  have hcs:=Lib.cells_of_tab ht he hce hct hd
  have hsz:0<cs.size:=by rw [←Array.length_toList,hcs,List.length_map]; exact h0
  obtain ⟨⟨c,t2,hc⟩,-⟩:=hC g 0 (hin _ (List.mem_map.2 ⟨0,List.mem_range.2 hsz,rfl⟩))
  unfold World.var? at hvar
  rw [hg] at hvar
  simp only [Option.bind_some,hc,Option.some.injEq] at hvar
  subst hvar
  refine ⟨t2,hc.trans ?_⟩
  rw [show c=ints k zs from by rw [ints,←hcs]]
def Qb0 : List Int:=[163,120,89,19,202,77,235,117,171,216,65,65,77,10,112,0,152,232,121,119,121,64,199,140,115,254,111,43,238,108,3,82]
def QbH : List Int:=[26,213,37,143,96,45,86,201,178,167,37,149,96,199,44,105,92,220,214,253,49,226,164,192,254,83,110,205,211,54,105,33]
def QbG : List Int:=[88,102,102,102,102,102,102,102,102,102,102,102,102,102,102,102,102,102,102,102,102,102,102,102,102,102,102,102,102,102,102,102]
def dN : Int:=37095705934669439343138083508754565189542113879843219016388785533085940283555
def bxN : Int:=15112221349535400772501151409588531511454012693041857206046113283949847762202
def byN : Int:=46316835694926478169428394003475163141307993866256225615783033603165251855960
theorem QeE : isN dN:=by unfold isN; decide
theorem Ql7 : isN bxN:=by unfold isN; decide
theorem Ql6 : isN byN:=by unfold isN; decide
theorem Qq3 : QfE Qb0=dN:=by decide +kernel
theorem key_bx : QfE QbH=bxN:=by decide +kernel
theorem key_by : QfE QbG=byN:=by decide +kernel
theorem Qgt : Qal Qb0:=by unfold Qal; decide
theorem baseX_bytes : Qal QbH:=by unfold Qal; decide
theorem baseY_bytes : Qal QbG:=by unfold Qal; decide
theorem QfG (w : World):Calls Tryd.prog 44 #[.agg (ints .u8 Qb0)] w (Ret w (num dN)):=by rw [←Qq3]; exact QmU Qb0 rfl Qgt w
theorem from_bx (w : World):Calls Tryd.prog 44 #[.agg (ints .u8 QbH)] w (Ret w (num bxN)):=by rw [←key_bx]; exact QmU QbH rfl baseX_bytes w
theorem from_by (w : World):Calls Tryd.prog 44 #[.agg (ints .u8 QbG)] w (Ret w (num byN)):=by rw [←key_by]; exact QmU QbG rfl baseY_bytes w
theorem Qpb (w : World):Calls Tryd.prog 60 #[.agg (ints .u8 Qb0)] w (Ret w (lnum dN)):=by rw [←Qq3]; exact lFrom Qb0 rfl Qgt w
end Go.Proofs.YtdoadngmgmdlbaaDoor.Field
end
section
namespace Go.Proofs.YtdoadngmgmdlbaaDoor.Field
open Go Go.RowKit
open Rely Auto
theorem run_index_il {P : Program} {ρ:Operand→Value} {o:Oper} {w:World} (t:TypeId) (x y:Operand) (ki k:IntKind) (xs:List Int) (i n:Nat) (e:TypeId) (v:Int) (ho:o.op=.index t x y) (hx:ρ x=.agg (ints k xs)) (hy:ρ y=.int ki (i:Int))
    (ht:P.underlying t=some (.array n e)) (he:P.underlying e=some (.int k)) (hq:(P.info? e).map (·.size)=some 1) (hl:xs.length=n) (hi:i<n) (hv:nth xs i=v):(execOp ρ o).run P w=.ok (.value (.int k v)) w:=by
  have h:=run_index_ints (P:=P) w (ki:=ki) ht he hq xs hl i hi
  rw [hv] at h
  unfold execOp
  simp only [ho,hx,hy,Sem.run_bind,h,Result.andThen_ok,Sem.run_pure]
theorem Qm6 (a b:Int) (ha:isN a) (hb:isN b) (W:World):(Op.equalIn 9999 47 (.agg (numA a)) (.agg (numA b))).run Tryd.prog W=.ok (a==b) W:=by
  obtain ⟨x0,x1,x2,x3,wx0,wx1,wx2,wx3,ex,eX⟩:=Qcq a ha
  obtain ⟨y0,y1,y2,y3,wy0,wy1,wy2,wy3,ey,eY⟩:=Qcq b hb
  rw [QoJ] at eX eY
  unfold words at eX eY
  rw [eX,eY]
  have h:=Qde (P:=Tryd.prog) W 9997 Tryd.underlying47 Tryd.underlying46 kj [x0,x1,x2,x3] [y0,y1,y2,y3] rfl rfl
  have e:decide ([x0,x1,x2,x3]=[y0,y1,y2,y3])=(a==b):=by
    have:[x0,x1,x2,x3]=[y0,y1,y2,y3]↔a=b:=by
      simp only [List.cons.injEq,and_true]
      unfold isW val at *
      constructor <;> omega
    rw [Bool.eq_iff_iff]
    simp only [decide_eq_true_eq,beq_iff_eq,this]
  rw [e] at h
  exact h
theorem QkR (a b:Int) (r:Bool) (ha:isN a) (hb:isN b) (h:(a==b)=r) (W:World):(binOp .eql 49 (.agg (numA a)) (.agg (numA b))).run Tryd.prog W=.ok (.bool r) W:=by
  have q:=Qm6 a b ha hb W
  have hp:∀ n,(Go.part 47 (numA n) 0).run Tryd.prog W=.ok (.agg (numA n)) W:=fun n=>kj
  rw [run_eql_struct,run_equalIn_struct W 9999 _ _ _ kj kj]
  obtain ⟨fd, hl, h1, h2, h3⟩ : ∃ fd, (Tryd.prog.fieldsOf 49).toList = [fd] ∧ fd.type = 47 ∧ fd.offset = 0 ∧ (fd.name != "_") = true := by
    cases hL:(Tryd.prog.fieldsOf 49).toList with
    | nil=>exact absurd (congrArg List.length hL) (by rw [show (Tryd.prog.fieldsOf 49).toList.length=1 from by kernel_rfl]; decide)
    | cons fd r =>
      have e1 : (Tryd.prog.fieldsOf 49).toList.map (fun f => (f.type, f.offset, f.name != "_")) = [(47, 0, true)] := kj
      rw [hL] at e1
      simp only [List.map_cons,List.cons.injEq,Prod.mk.injEq,List.map_eq_nil_iff] at e1
      obtain ⟨⟨a1,a2,a3⟩,rfl⟩:=e1
      exact ⟨fd,rfl,a1,a2,a3⟩
  have h4 : fd.name ≠ "_" := by simpa using h3
  rw [hl,Op.eqFields,if_pos h4]
  simp only [Sem.run_bind,h1,h2,hp,Result.andThen_ok,q]
  rw [h]
  cases r <;> simp [Op.eqFields]
theorem key_eql (xs ys:List Int) (r:Bool) (hx:xs.length=32) (hy:ys.length=32) (h:decide (xs=ys)=r) (W:World):(binOp .eql 23 (.agg (ints .u8 xs)) (.agg (ints .u8 ys))).run Tryd.prog W=.ok (.bool r) W:=by
  rw [Qna W Tryd.underlying23 Tryd.underlying5 kj xs ys hx hy,h]
theorem Qef (xs ys:List Int) (r:Bool) (hx:xs.length=32) (hy:ys.length=32) (h:decide (xs=ys)=r) (W:World):(binOp .neq 23 (.agg (ints .u8 xs)) (.agg (ints .u8 ys))).run Tryd.prog W=.ok (.bool (!r)) W:=by
  rw [QmA W Tryd.underlying23 Tryd.underlying5 kj xs ys hx hy,h]
theorem QnB (a : Int) (r:Bool) (ha:isN a) (h:(a%2==1)=r) (w:World):Calls Tryd.prog 51 #[num a] w (Ret w (.bool r)):=by
  have:=odd a ha w
  rw [h] at this
  exact this
theorem Qrg (v : Int) (h:0≤v∧v<128):bits .or .u8 v 128=v+128:=by
  obtain ⟨n,rfl⟩:=Int.eq_ofNat_of_zero_le h.1
  have hn:n<128:=by omega
  have:∀ m:Fin 128,bits .or .u8 ((m.val:Nat):Int) 128=((m.val:Nat):Int)+128:=by decide +kernel
  exact this ⟨n,hn⟩
theorem QfS (v : Int) (h:0≤v∧v≤255):bits .and .u8 v 127=v%128:=by
  obtain ⟨n,rfl⟩:=Int.eq_ofNat_of_zero_le h.1
  have hn:n<256:=by omega
  have:∀ m:Fin 256,bits .and .u8 ((m.val:Nat):Int) 127=((m.val:Nat):Int)%128:=by decide +kernel
  exact this ⟨n,hn⟩
theorem QqO (v : Int) (h:0≤v∧v<128):IntKind.u8.wrap (v+128)=v+128:=by
  obtain ⟨n,rfl⟩:=Int.eq_ofNat_of_zero_le h.1
  have hn:n<128:=by omega
  have:∀ m:Fin 128,IntKind.u8.wrap (((m.val:Nat):Int)+128)=((m.val:Nat):Int)+128:=by decide +kernel
  exact this ⟨n,hn⟩
theorem QdC {n : Int} (h:isN n):0≤nth (Qao n) 31∧nth (Qao n) 31<128:=by
  have e:nth (Qao n) 31=Qap n 31:=by unfold nth Qao part; simp
  rw [e]
  obtain ⟨h0,h1⟩:=h
  unfold Qap
  unfold p at h1
  simp only [Int.reducePow]
  omega
theorem bytes_len (n : Int):(Qao n).length=32:=by unfold Qao part; simp
theorem QhC (n : Int):Int.tmod (nth (lims n) 0) 2=n%2:=by
  have e:nth (lims n) 0=n%65536:=by
    unfold nth lims
    simp [limb]
  rw [e,Int.tmod_eq_emod_of_nonneg (by omega)]
  omega
end Go.Proofs.YtdoadngmgmdlbaaDoor.Field
end
section
namespace Go.Proofs.YtdoadngmgmdlbaaDoor.Field
open Go Go.RowKit
open Rely Auto
theorem mod_step (a : Int) (k:Nat):a%256^(k+1)=a%256^k+256^k*(a/256^k%256):=by
  have hB:(0:Int)<256^k:=Int.pow_pos (by decide)
  rw [Int.pow_succ]
  generalize (256:Int)^k=B at hB
  have e1:=Int.mul_ediv_add_emod a B
  have e2:=Int.mul_ediv_add_emod (a/B) 256
  have r1:=Int.emod_nonneg a (Int.ne_of_gt hB)
  have r2:=Int.emod_lt_of_pos a hB
  have s1:=Int.emod_nonneg (a/B) (show (256:Int)≠0 by decide)
  have s2:=Int.emod_lt_of_pos (a/B) (show (0:Int)<256 by decide)
  generalize a%B=r at *
  generalize a/B%256=s at *
  generalize a/B/256=t at *
  generalize a/B=q at *
  have e3:a=(r+B*s)+B*256*t:=by rw [←e1,←e2]; grind
  have m1:B*s≤B*255:=Int.mul_le_mul_of_nonneg_left (by omega) (by omega)
  have m2:0≤B*s:=Int.mul_nonneg (by omega) s1
  rw [e3,Int.add_mul_emod_self_left]
  exact Int.emod_eq_of_lt (by omega) (by omega)
theorem nth_set_self (xs : List Int) (i:Nat) (v:Int) (h:i<xs.length):nth (xs.set i v) i=v:=by unfold nth; simp [h]
def bval (bs : List Bool):Nat:=bs.foldl (fun n b=>2*n+if b then 1 else 0) 0
theorem leAt_mod (n : Int):∀ k,k≤32→leAt (Qao n) 0 k=n%256^k
  | 0,_=>by simp [leAt,Int.emod_one]
  | k+1,hk=>by
    have q:nth (Qao n) (0+k)=Qap n k:=by unfold nth Qao part; simp [show k<32 by omega]
    rw [leAt,leAt_mod n k (by omega),q,mod_step]
    unfold Qap
    rw [Int.mul_comm (n/256^k%256)]
theorem Qgq (es : List Int) (w:World):Calls Tryd.prog 46 #[.agg (ints .u8 es)] w fun e w'=>∃ v,e=.returned v∧Ext w w'∧∃ kb,w.heap.size≤kb∧v=.func (.func 82) #[] #[.pointer (some ⟨kb,0,none⟩)]∧w'.heap[kb]? = some (.cells (ints .u8 es) 23):=by
  have hmf:∀ (fn:Fn) (first cap:Array Value) (w:World),(Instr.makeFunc fn first cap).run Tryd.prog w=.ok (.func fn first cap) w:=fun _ _ _ _=>rfl
  go_enter Tryd.func46,Tryd.ntmps46
  go_wp2_with fail
  exact bodyPost_ret (results_tmp rfl _ _ _) rfl ⟨_,rfl,QaJ _ _,w.heap.size,qR _,rfl,heap_alloc_new _ _⟩
def numB (es : List Int):Nat:=(leAt es 0 32).toNat
theorem QoR (m : Int) (r:Nat) (hr:r<16):m%65536/2^r%2=m/2^r%2:=by
  rcases (by omega:r=0∨r=1∨r=2∨r=3∨r=4∨r=5∨r=6∨r=7∨r=8∨r=9∨r=10∨r=11∨r=12∨r=13∨r=14∨r=15) with rfl | rfl | rfl | rfl | rfl | rfl | rfl | rfl | rfl | rfl | rfl | rfl | rfl | rfl | rfl | rfl
  all_goals
    simp only [Int.reducePow]
    omega
theorem Qpz (es : List Int) (hb:Qal es) (i:Nat) (hi:i<256):QcR es i=leAt es 0 32/2^i%2:=by
  rw [←QoZ es hb i hi]
  unfold lbit limb
  rw [QoR _ _ (by omega),Int.ediv_ediv_of_nonneg (Int.pow_nonneg (by decide)),show (65536:Int)=2^16 by decide,←Int.pow_mul,←Int.pow_add,show 16*(i/16)+i%16=i by omega]
theorem Qnr (es : List Int) (hb:Qal es) (i:Nat) (hi:i<256):(if bitB es i=true then 1 else 0)=numB es/2^i%2:=by
  have h:=Qpz es hb i hi
  have hr:=Qjd es hb
  have e:((numB es:Nat):Int)=leAt es 0 32:=by unfold numB; omega
  rw [←e] at h
  have h2:QcR es i=((numB es/2^i%2:Nat):Int):=by
    rw [h]; rw [Int.natCast_emod,Int.natCast_ediv,Int.natCast_pow]; rfl
  unfold bitB
  rw [h2]
  have:numB es/2^i%2<2:=Nat.mod_lt _ (by decide)
  rcases (by omega:numB es/2^i%2=0∨numB es/2^i%2=1) with q | q <;> rw [q] <;> rfl
theorem QhY (bs : List Bool) (b:Bool):bval (bs++[b])=2*bval bs+if b then 1 else 0:=by unfold bval; rw [List.foldl_append]; rfl
theorem QhX (es : List Int) (hb:Qal es):∀ k,k≤256→bval ((bitsB es).take k)=numB es/2^(256-k)
  | 0,_=>by
    have hr:=Qjd es hb
    have:numB es<2^256:=by
      have:(2:Int)^256=big:=by decide
      unfold numB
      have e2:((2^256:Nat):Int)=big:=by rw [←this]; rfl
      omega
    rw [Nat.sub_zero,Nat.div_eq_of_lt this]
    rfl
  | k+1,hk=>by
    have e:=QeX es (255-k) (by omega)
    rw [show 256-(255-k)=k+1 by omega,show 256-(255-k+1)=k by omega] at e
    rw [e,QhY,QhX es hb k (by omega),Qnr es hb _ (by omega),show 256-k=(255-k)+1 by omega,show 256-(k+1)=255-k by omega,Nat.pow_succ,←Nat.div_div_eq_div_mul]
    omega
theorem QfN (es : List Int) (hb:Qal es):bval (bitsB es)=numB es:=by
  have h:=QhX es hb 256 (qR _)
  rw [List.take_of_length_le (by rw [QeH]; omega)] at h
  rw [h]
  simp
theorem QhE : ∀ (k o:Nat) (xs:List Int),(∀ i,i<k→nth xs (o+i)=0)→leAt xs o k=0
  | 0,_,_,_=>rfl
  | k+1,o,xs,h=>by rw [leAt,QhE k o xs fun i hi=>h i (by omega),h k (by omega)]; simp
theorem Qge {n m:Int} (hn:0≤n∧n≤255) (hm:0≤m∧m≤255):0≤n*m∧n*m≤65025:=by
  have h1:=Int.mul_nonneg hn.1 hm.1
  have h2:n*m≤255*m:=Int.mul_le_mul_of_nonneg_right hn.2 hm.1
  omega
theorem Qjh {n : Int} (h:0≤n∧n≤255):IntKind.i64.wrap n=n:=IntWalk.i64_in _ (by omega)
theorem u8_mod (n : Int):IntKind.u8.wrap n=n%256:=by rw [IntKind.wrap_u8]
theorem shr_8 (v : Int):v.fdiv (2^min (8:Int).toNat IntKind.i64.bits)=v/256:=by
  show Int.fdiv v 256=v/256
  exact Int.fdiv_eq_ediv_of_nonneg v (by decide)
theorem QaQ (n : Int):Qal (Qao n):=fun v hv=>by
  unfold Qao part at hv
  simp only [List.mem_map,List.mem_range] at hv
  obtain ⟨i,hi,rfl⟩:=hv
  rw [if_pos hi]
  unfold Qap
  omega
end Go.Proofs.YtdoadngmgmdlbaaDoor.Field
end
