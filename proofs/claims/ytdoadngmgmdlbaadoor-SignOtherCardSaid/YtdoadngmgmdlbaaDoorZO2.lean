/- Texts of this claim, joined (O2). -/
import Derived.Test.YtdoadngmgmdlbaaDoorZO1
import Derived.Test.YtdoadngmgmdlbaaDoorRows
import Derived.Laws.Externs
import Derived.Shelf.Spec.BitsCarry
import Derived.Shelf.Bits.Mul64
import Derived.Laws.Bits64b
import Derived.Laws.BitsAllLaws
import Derived.LoopN
import Derived.WalkKit

set_option linter.unusedVariables false
set_option linter.unusedSimpArgs false
set_option maxHeartbeats 4000000
section
section
namespace Go.Proofs.YtdoadngmgmdlbaaDoor.Field
open Go Go.RowKit
open Rely
def isW (x : Int):Prop:=0≤x∧x<18446744073709551616
theorem Qet (x y c:Int) (hx:isW x) (hy:isW y) (hc:0≤c∧c≤1) :
    ∃ s d:Int,isW s∧(0≤d∧d≤1)∧s+18446744073709551616*d=x+y+c ∧
      ∀ W,(callFunc 88 #[.int .u64 x,.int .u64 y,.int .u64 c]).run Tryd.prog W=.ok (.value (.tuple #[.int .u64 s,.int .u64 d])) W:=by
  unfold isW at hx hy
  refine ⟨(x+y+c)%18446744073709551616,(x+y+c)/18446744073709551616,⟨by omega,by omega⟩,by omega,by omega,fun W=>?_⟩
  rw [run_callFunc_extern Tryd.func88 kj kj kj (e:=add64Entry) kj,run_add64 x y c hx.1 hy.1 hc.1 hc.2]
  rfl
theorem Qe2 (x y c:Int) (hx:isW x) (hy:isW y) (hc:0≤c∧c≤1) :
    ∃ s d:Int,isW s∧(0≤d∧d≤1)∧s-18446744073709551616*d=x-y-c ∧
      ∀ W,(callFunc 89 #[.int .u64 x,.int .u64 y,.int .u64 c]).run Tryd.prog W=.ok (.value (.tuple #[.int .u64 s,.int .u64 d])) W:=by
  unfold isW at hx hy
  obtain ⟨X,rfl⟩:=Int.eq_ofNat_of_zero_le hx.1
  obtain ⟨Y,rfl⟩:=Int.eq_ofNat_of_zero_le hy.1
  obtain ⟨C,rfl⟩:=Int.eq_ofNat_of_zero_le hc.1
  refine ⟨(((X+18446744073709551616-Y-C)%18446744073709551616:Nat):Int),((if X<Y+C then 1 else 0:Nat):Int),⟨by omega,by omega⟩,?_,?_,fun W=>?_⟩
  · split <;> simp
  · split <;> omega
  · rw [run_callFunc_extern Tryd.func89 kj kj kj (e:=sub64Entry) kj,run_sub64 X Y C (by omega)]
    rfl
theorem maskN (a : Int) (h:isW a):bits .and .u64 a 4294967295=a%4294967296:=by
  obtain ⟨A,rfl⟩:=Int.eq_ofNat_of_zero_le h.1
  have h:=bits_and_u64_nat A 4294967295 (by have:=h.2; omega) (by omega)
  have e:A&&&4294967295=A%4294967296:=Nat.and_two_pow_sub_one_eq_mod A 32
  rw [e] at h
  exact h
theorem wrap64 (a : Int) (h:isW a):IntKind.u64.wrap a=a:=by rw [IntKind.wrap_u64]; have:=h.1; have:=h.2; omega
theorem Qrm (x y:Int) (hx:isW x) (hy:isW y) :
    ∃ hi lo:Int,isW hi∧isW lo∧lo+18446744073709551616*hi=x*y∧∀ w,Calls Tryd.prog 100 #[.int .u64 x,.int .u64 y] w (fun e w'=>e=.returned (.tuple #[.int .u64 hi,.int .u64 lo])∧w'=w):=by
  obtain ⟨X,rfl⟩:=Int.eq_ofNat_of_zero_le hx.1
  obtain ⟨Y,rfl⟩:=Int.eq_ofNat_of_zero_le hy.1
  have hX:X<18446744073709551616:=by have:=hx.2; omega
  have hY:Y<18446744073709551616:=by have:=hy.2; omega
  have hXY:X*Y<18446744073709551616*18446744073709551616:=Nat.mul_lt_mul'' hX hY
  refine ⟨((X*Y/18446744073709551616:Nat):Int),((X*Y%18446744073709551616:Nat):Int),⟨by omega,by omega⟩,⟨by omega,by omega⟩,?_,fun w=>?_⟩
  · rw [←Int.natCast_mul]; omega
  obtain ⟨bd,bt,bw,hhi⟩:=Lib.mul64_hi X Y hX hY
  have ba:=Lib.half_mul_le (a:=X/4294967296) (b:=Y/4294967296) (by omega) (by omega)
  have bb:=Lib.half_mul_le (a:=X/4294967296) (b:=Y%4294967296) (by omega) (by omega)
  have bc:=Lib.half_mul_le (a:=X%4294967296) (b:=Y/4294967296) (by omega) (by omega)
  have ba':X/4294967296*(Y/4294967296)<18446744073709551616:=by omega
  have bb':X/4294967296*(Y%4294967296)<18446744073709551616:=by omega
  have bc':X%4294967296*(Y/4294967296)<18446744073709551616:=by omega
  have bh1:X/4294967296*(Y/4294967296)+(X/4294967296*(Y%4294967296)+X%4294967296*(Y%4294967296)/4294967296)/4294967296<18446744073709551616:=by omega
  have bh:X/4294967296*(Y/4294967296)+(X/4294967296*(Y%4294967296)+X%4294967296*(Y%4294967296)/4294967296)/4294967296+((X/4294967296*(Y%4294967296)+X%4294967296*(Y%4294967296)/4294967296)%4294967296+X%4294967296*(Y/4294967296))/4294967296<18446744073709551616:=by omega
  go_enter Tryd.func100,Tryd.ntmps100
  go_wp2
  simp only [Mul64.maskN X hX,Mul64.maskN Y hY,Mul64.divN,Mul64.mulN,Mul64.addN,Mul64.wrapN _ bd,Mul64.wrapN _ bb',Mul64.wrapN _ bt,Mul64.maskN _ bt,Mul64.wrapN _ bc',Mul64.wrapN _ bw,Mul64.wrapN _ ba',Mul64.wrapN _ bh1,Mul64.wrapN _ bh,Mul64.wrapM (X*Y)]
  rw [hhi]
  go_ret2
  exact ⟨rfl,rfl⟩
theorem Qbz : isW 0:=⟨by decide,by decide⟩
theorem Qcv (x y a b:Int) (hx:isW x) (hy:isW y) (ha:isW a) (hb:isW b) :
    ∃ lo hi:Int,isW lo∧isW hi∧lo+18446744073709551616*hi=x*y+a+b∧∀ w,Calls Tryd.prog 91 #[.int .u64 x,.int .u64 y,.int .u64 a,.int .u64 b] w (fun e w'=>e=.returned (.tuple #[.int .u64 lo,.int .u64 hi])∧w'=w):=by
  obtain ⟨h0,l0,wh0,wl0,e0,c0⟩:=Qrm x y hx hy
  obtain ⟨l1,k1,wl1,wk1,e1,c1⟩:=Qet l0 a 0 wl0 ha (by decide)
  obtain ⟨l2,k2,wl2,wk2,e2,c2⟩:=Qet l1 b 0 wl1 hb (by decide)
  have hm:x*y≤18446744073709551615*18446744073709551615:=Int.mul_le_mul (by have:=hx.2; omega) (by have:=hy.2; omega) hy.1 (by decide)
  have hn:0≤x*y:=Int.mul_nonneg hx.1 hy.1
  generalize x*y=xy at *
  unfold isW at *
  have w1:=wrap64 (h0+k1) (by unfold isW; omega)
  have w2:=wrap64 (h0+k1+k2) (by unfold isW; omega)
  refine ⟨l2,h0+k1+k2,wl2,by omega,by omega,fun w=>?_⟩
  have C0:=Lib.hid c0
  clear c0 hm hn hx hy ha hb wh0 wl0 wl1 wl2 wk1 wk2 e0 e1 e2
  go_enter Tryd.func91,Tryd.ntmps91
  go_wp2_with (go_at_call 100; (with_reducible refine (C0.out _).mono ?_); rintro e w' ⟨rfl,rfl⟩)
  go_ret2
  exact ⟨rfl,rfl⟩
end Go.Proofs.YtdoadngmgmdlbaaDoor.Field
end
section
namespace Go.Proofs.YtdoadngmgmdlbaaDoor.Field
open Go Go.RowKit
open Rely
def val (a b c d:Int):Int:=a+18446744073709551616*b+340282366920938463463374607431768211456*c+6277101735386680763835789423207666416102355444464034512896*d
def p : Int:=57896044618658097711785492504343953926634992332820282019728792003956564819949
def words (a b c d:Int):Value:=.agg #[.int .u64 a,.int .u64 b,.int .u64 c,.int .u64 d]
def num (n : Int):Value:=words (n%18446744073709551616) (n/18446744073709551616%18446744073709551616) (n/340282366920938463463374607431768211456%18446744073709551616) (n/6277101735386680763835789423207666416102355444464034512896%18446744073709551616)
theorem Qeo (a b c d:Int) (ha:isW a) (hb:isW b) (hc:isW c) (hd:isW d):words a b c d=num (val a b c d):=by
  unfold isW at *
  unfold num val
  have e1:(a+18446744073709551616*b+340282366920938463463374607431768211456*c+6277101735386680763835789423207666416102355444464034512896*d)%18446744073709551616=a:=by omega
  have e2:(a+18446744073709551616*b+340282366920938463463374607431768211456*c+6277101735386680763835789423207666416102355444464034512896*d)/18446744073709551616%18446744073709551616=b:=by omega
  have e3:(a+18446744073709551616*b+340282366920938463463374607431768211456*c+6277101735386680763835789423207666416102355444464034512896*d)/340282366920938463463374607431768211456%18446744073709551616=c:=by omega
  have e4:(a+18446744073709551616*b+340282366920938463463374607431768211456*c+6277101735386680763835789423207666416102355444464034512896*d)/6277101735386680763835789423207666416102355444464034512896%18446744073709551616=d:=by omega
  rw [e1,e2,e3,e4]
theorem Qf8 {fn : Func} {tmps:Array Value} {W:World} {g:Nat} {t:Tmp} {a b c d:Int} (h:fn.results=#[.cell t 49])
    (hp:tmps.getD t undef=.pointer (some ⟨g,0,none⟩)) (hg:W.heap[g]? = some (.cells #[.int .u64 a,.int .u64 b,.int .u64 c,.int .u64 d] 49)) :
    (results fn tmps).run Tryd.prog W=.ok (words a b c d) W :=
  results_cell_row h tmps W g 49 _ (0,0) _ hp hg Tryd.underlying49 rfl kj
theorem Qio (a : Int) (h:isW a):bits .andNot .u64 a 9223372036854775808=a%9223372036854775808:=by
  obtain ⟨A,rfl⟩:=Int.eq_ofNat_of_zero_le h.1
  have h2:A<18446744073709551616:=by have:=h.2; omega
  have e:=u64_andNot_nat A 9223372036854775808 h2 (by decide)
  have m:A&&&9223372036854775807=A%9223372036854775808:=Nat.and_two_pow_sub_one_eq_mod A 63
  simp only [Nat.reduceSub,m] at e
  exact e
theorem reduced (a b c d:Int) (ha:isW a) (hb:isW b) (hc:isW c) (hd:isW d) (h:val a b c d<2*p) (w:World) :
    Calls Tryd.prog 81 #[.int .u64 a,.int .u64 b,.int .u64 c,.int .u64 d] w (Ret w (num (val a b c d%p))):=by
  obtain ⟨v0,c0,wv0,wc0,e0,r0⟩:=Qet a 19 0 ha (by unfold isW; decide) (by decide)
  obtain ⟨v1,c1,wv1,wc1,e1,r1⟩:=Qet b 0 c0 hb (by unfold isW; decide) wc0
  obtain ⟨v2,c2,wv2,wc2,e2,r2⟩:=Qet c 0 c1 hc (by unfold isW; decide) wc1
  have wv3:isW (d+c2):=by unfold isW val p at *; omega
  have o3:=Qio _ wv3
  have u3:=wrap64 _ wv3
  by_cases hlt:d+c2<9223372036854775808
  · have hz:(d+c2)/9223372036854775808=0:=by have:=wv3.1; omega
    have hv:num (val a b c d%p)=words a b c d:=by
      rw [Int.emod_eq_of_lt (by unfold isW val p at *; omega) (by unfold isW val p at *; omega),Qeo a b c d ha hb hc hd]
    rw [hv]
    clear hv o3 e0 e1 e2 h
    go_enter Tryd.func81,Tryd.ntmps81
    go_wp2_with fail
    exact bodyPost_ret (Qf8 (t:=8) rfl rfl (heap_alloc_new w _)) rfl ⟨rfl,QaG _ _⟩
  · have hz:(d+c2)/9223372036854775808=1:=by have:=wv3.2; omega
    have hv:num (val a b c d%p)=words v0 v1 v2 ((d+c2)%9223372036854775808):=by
      rw [Qeo v0 v1 v2 ((d+c2)%9223372036854775808) wv0 wv1 wv2 (by unfold isW; omega)]
      congr 1
      rw [←Int.sub_emod_right,Int.emod_eq_of_lt (by unfold isW val p at *; omega) (by unfold isW val p at *; omega)]
      unfold isW val p at *
      omega
    rw [hv]
    clear hv e0 e1 e2 h
    go_enter Tryd.func81,Tryd.ntmps81
    go_wp2_with fail
    exact bodyPost_ret (Qf8 (t:=8) rfl rfl (heap_alloc_new w _)) rfl ⟨rfl,QaG _ _⟩
end Go.Proofs.YtdoadngmgmdlbaaDoor.Field
end
section
namespace Go.Proofs.YtdoadngmgmdlbaaDoor.Field
open Go Go.RowKit
open Rely
def isN (a : Int):Prop:=0≤a∧a<p
theorem isN_mod (a : Int):isN (a%p):=⟨Int.emod_nonneg _ (by unfold p; decide),Int.emod_lt_of_pos _ (by unfold p; decide)⟩
theorem Qcn (a : Int) (h:isN a):∃ x0 x1 x2 x3:Int,isW x0∧isW x1∧isW x2∧isW x3∧val x0 x1 x2 x3=a∧num a=words x0 x1 x2 x3:=by
  refine ⟨a%18446744073709551616,a/18446744073709551616%18446744073709551616,a/340282366920938463463374607431768211456%18446744073709551616,a/6277101735386680763835789423207666416102355444464034512896%18446744073709551616,?_,?_,?_,?_,?_,rfl⟩
  all_goals unfold isN p at h
  all_goals first | (unfold isW; omega) | (unfold val; omega)
def numA (n : Int):Array Value:=#[.int .u64 (n%18446744073709551616),.int .u64 (n/18446744073709551616%18446744073709551616),.int .u64 (n/340282366920938463463374607431768211456%18446744073709551616),.int .u64 (n/6277101735386680763835789423207666416102355444464034512896%18446744073709551616)]
theorem QoT (n : Int):num n=.agg (numA n):=rfl
theorem QaU : (Tryd.prog.info? 49).map (·.size)=some 4:=kj
theorem Qdv {fn : Func} {tmps:Array Value} {W:World} {g:Nat} {t:Tmp} {n:Int} (h:fn.results=#[.cell t 49])
    (hp:tmps.getD t undef=.pointer (some ⟨g,0,none⟩)) (hg:W.heap[g]? = some (.cells (numA n) 49)) :
    (results fn tmps).run Tryd.prog W=.ok (num n) W :=
  results_cell_row h tmps W g 49 _ (0,0) _ hp hg Tryd.underlying49 rfl QaU
theorem Qb2 (w : World) (a b c:Obj):(((w.alloc a).alloc b).alloc c).heap[w.heap.size+2]? = some c:=by
  have:=heap_alloc_new ((w.alloc a).alloc b) c
  simpa using this
theorem below_setRow {B : Nat} {a w:World} (h:Below B a w) {g:Nat} (hp:B≤g) (cs:Array Value):Below B a (w.setRow g cs) :=
  ⟨h.os,h.tape,h.output,by simpa using h.size,fun k hk=>(setRow_other w g k cs (by omega)).trans (h.block k hk)⟩
theorem ext3 (w : World) (a b c:Obj):Ext w (((w.alloc a).alloc b).alloc c):=Ext.trans (Ext.trans (QaG _ _) (QaG _ _)) (QaG _ _)
theorem Qb9 (n : Int):(numA n).all (·.oneCell')=true:=by simp [numA,Value.oneCell']
theorem add (a b:Int) (ha:isN a) (hb:isN b) (w:World) :
    Calls Tryd.prog 68 #[num a,num b] w (Ret w (num ((a+b)%p))):=by
  obtain ⟨x0,x1,x2,x3,wx0,wx1,wx2,wx3,ex,eX⟩:=Qcn a ha
  obtain ⟨y0,y1,y2,y3,wy0,wy1,wy2,wy3,ey,eY⟩:=Qcn b hb
  obtain ⟨v0,c0,wv0,wc0,e0,r0⟩:=Qet x0 y0 0 wx0 wy0 (by decide)
  obtain ⟨v1,c1,wv1,wc1,e1,r1⟩:=Qet x1 y1 c0 wx1 wy1 wc0
  obtain ⟨v2,c2,wv2,wc2,e2,r2⟩:=Qet x2 y2 c1 wx2 wy2 wc1
  have wv3:isW (x3+y3+c2):=by unfold isN isW val p at *; omega
  have u3:=wrap64 _ wv3
  have u3':=wrap64 (x3+y3) (by unfold isW at *; omega)
  have hs:val v0 v1 v2 (x3+y3+c2)=a+b:=by unfold val at *; omega
  have C:∀ w,Calls Tryd.prog 81 #[.int .u64 v0,.int .u64 v1,.int .u64 v2,.int .u64 (x3+y3+c2)] w (Ret w (num ((a+b)%p))):=fun w=>by
    have:=reduced v0 v1 v2 (x3+y3+c2) wv0 wv1 wv2 wv3 (by rw [hs]; unfold isN at *; omega) w
    rw [hs] at this
    exact this
  rw [eX,eY]
  generalize (a+b)%p=r at *
  have HC:=Lib.hid C
  clear C hs e0 e1 e2 ex ey eX eY ha hb
  unfold words
  go_enter Tryd.func68,Tryd.ntmps68
  go_wp2_with first
    | (go_at_call 81
       (with_reducible refine (HC.out _).mono ?_)
       rintro e w' ⟨rfl,hw⟩)
    | (with_reducible show wpList _ _ _ ((⟨_,.store 49 _ _,_,_,_,_⟩:Oper)::_) _ _
       refine wpList_store_row rfl 49 _ _ rfl (w.heap.size+2) (numA r) rfl rfl 49 _ ((hw.block _ (by simp)).trans (Qb2 _ _ _ _)) QaU rfl (Qb9 _) ?_)
  exact bodyPost_ret (Qdv (t:=4) rfl rfl (setRow_heap _ _ _ _ _ _ ((hw.block _ (by simp)).trans (Qb2 _ _ _ _)))) rfl ⟨rfl,below_setRow (Ext.trans (ext3 _ _ _ _) hw) (by omega) _⟩
theorem QnY (r : Nat) (h:r<9223372036854775808):(9223372036854775808+r)^^^9223372036854775808=r:=by
  have e:9223372036854775808+r=9223372036854775808|||r:=by
    have:=Nat.two_pow_add_eq_or_of_lt (i:=63) (b:=r) h 1
    simpa using this
  have h2:(9223372036854775808:Nat)=2^63:=by decide
  rw [e]
  apply Nat.eq_of_testBit_eq
  intro i
  rw [Nat.testBit_xor,Nat.testBit_or,h2,Nat.testBit_two_pow]
  by_cases hi:63=i
  · subst hi
    rw [Nat.testBit_lt_two_pow (h2▸h)]
    simp
  · simp [hi]
theorem Qmg (a : Int) (h:9223372036854775808≤a∧a<18446744073709551616):bits .xor .u64 a 9223372036854775808=a-9223372036854775808:=by
  rw [u64_xor a _ (by omega) (by omega) (by omega) (by omega)]
  obtain ⟨A,rfl⟩:=Int.eq_ofNat_of_zero_le (show 0≤a by omega)
  obtain ⟨r,rfl⟩:∃ r,A=9223372036854775808+r:=⟨A-9223372036854775808,by omega⟩
  have:=QnY r (by omega)
  simp only [Int.toNat_natCast]
  have e:(9223372036854775808:Int).toNat=9223372036854775808:=rfl
  rw [e,this]
  omega
theorem Qmf (a : Int) (h:isW a):bits .xor .u64 a 0=a:=by
  rw [u64_xor a _ h.1 h.2 (by omega) (by omega)]
  simp
  have:=h.1
  omega
theorem Qn4 (v0 v1 v2 v3 u0 u1 u2 d0 d1 d2:Int) (f0:u0-18446744073709551616*d0=v0-19-0) (f1:u1-18446744073709551616*d1=v1-0-d0) (f2:u2-18446744073709551616*d2=v2-0-d1) :
    val u0 u1 u2 (v3-d2)=val v0 v1 v2 v3-19:=by unfold val; omega
theorem Qf1 (a b c d:Int) (ha:isW a) (hb:isW b) (hc:isW c) (hd:isW d):0≤val a b c d∧val a b c d<115792089237316195423570985008687907853269984665640564039457584007913129639936:=by unfold isW at *; unfold val; omega
theorem QjH (u0 u1 u2 t V:Int) (h0:isW u0) (h1:isW u1) (h2:isW u2) (e:val u0 u1 u2 t=V)
    (l:57896044618658097711785492504343953926634992332820282019728792003956564819968≤V) (h:V<115792089237316195423570985008687907853269984665640564039457584007913129639936) :
    9223372036854775808≤t∧t<18446744073709551616:=by unfold isW at *; unfold val at e; omega
theorem Qod (a b c d:Int):val a b c (d-9223372036854775808)=val a b c d-57896044618658097711785492504343953926634992332820282019728792003956564819968:=by unfold val; omega
theorem sub (a b:Int) (ha:isN a) (hb:isN b) (w:World) :
    Calls Tryd.prog 69 #[num a,num b] w (Ret w (num ((a-b)%p))):=by
  obtain ⟨x0,x1,x2,x3,wx0,wx1,wx2,wx3,ex,eX⟩:=Qcn a ha
  obtain ⟨y0,y1,y2,y3,wy0,wy1,wy2,wy3,ey,eY⟩:=Qcn b hb
  obtain ⟨v0,c0,wv0,wc0,e0,r0⟩:=Qe2 x0 y0 0 wx0 wy0 (by decide)
  obtain ⟨v1,c1,wv1,wc1,e1,r1⟩:=Qe2 x1 y1 c0 wx1 wy1 wc0
  obtain ⟨v2,c2,wv2,wc2,e2,r2⟩:=Qe2 x2 y2 c1 wx2 wy2 wc1
  obtain ⟨v3,c3,wv3,wc3,e3,r3⟩:=Qe2 x3 y3 c2 wx3 wy3 wc2
  have hs:val v0 v1 v2 v3=a-b+115792089237316195423570985008687907853269984665640564039457584007913129639936*c3:=by unfold val at *; omega
  rw [eX,eY]
  rcases (by omega:c3=0∨c3=1) with rfl | rfl
  · obtain ⟨u0,d0,wu0,wd0,f0,s0⟩:=Qe2 v0 0 0 wv0 Qbz (by decide)
    obtain ⟨u1,d1,wu1,wd1,f1,s1⟩:=Qe2 v1 0 d0 wv1 Qbz wd0
    obtain ⟨u2,d2,wu2,wd2,f2,s2⟩:=Qe2 v2 0 d1 wv2 Qbz wd1
    have k0:d0=0:=by unfold isW at *; omega
    subst k0
    have k1:d1=0:=by unfold isW at *; omega
    subst k1
    have k2:d2=0:=by unfold isW at *; omega
    subst k2
    have hr:num ((a-b)%p)=words u0 u1 u2 v3:=by
      rw [Qeo _ _ _ _ wu0 wu1 wu2 wv3,Int.emod_eq_of_lt (by unfold isN isW val at *; omega) (by unfold isN isW val at *; omega)]
      congr 1
      unfold val at *
      omega
    have w3:=wrap64 v3 wv3
    have z3:=Qmf v3 wv3
    rw [hr]
    clear hr hs e0 e1 e2 e3 f0 f1 f2 ex ey eX eY ha hb
    unfold words
    go_enter Tryd.func69,Tryd.ntmps69
    go_wp2_with fail
    exact bodyPost_ret (Qf8 (t:=4) rfl rfl (Qb2 _ _ _ _)) rfl ⟨rfl,ext3 _ _ _ _⟩
  · obtain ⟨u0,d0,wu0,wd0,f0,s0⟩:=Qe2 v0 19 0 wv0 (by unfold isW; decide) (by decide)
    obtain ⟨u1,d1,wu1,wd1,f1,s1⟩:=Qe2 v1 0 d0 wv1 Qbz wd0
    obtain ⟨u2,d2,wu2,wd2,f2,s2⟩:=Qe2 v2 0 d1 wv2 Qbz wd1
    have hu:=Qn4 v0 v1 v2 v3 u0 u1 u2 d0 d1 d2 f0 f1 f2
    have hlo:=Qf1 v0 v1 v2 v3 wv0 wv1 wv2 wv3
    have hV:val u0 u1 u2 (v3-d2)=a-b+115792089237316195423570985008687907853269984665640564039457584007913129639917:=by rw [hu,hs]; omega
    have hb3:=QjH u0 u1 u2 (v3-d2) _ wu0 wu1 wu2 hV (by have:=ha.1; have:=hb.2; unfold p at this; omega) (by rw [hs] at hlo; omega)
    have hr:num ((a-b)%p)=words u0 u1 u2 (v3-d2-9223372036854775808):=by
      rw [Qeo _ _ _ _ wu0 wu1 wu2 (by unfold isW; omega),←Int.add_emod_right,Int.emod_eq_of_lt (by have:=ha.1; have:=hb.2; omega) (by rw [hs] at hlo; omega)]
      congr 1
      have e:=Qod u0 u1 u2 (v3-d2)
      rw [hV] at e
      rw [e]
      unfold p
      omega
    have w3:=wrap64 (v3-d2) (by unfold isW; omega)
    have z3:=Qmg (v3-d2) hb3
    rw [hr]
    clear hr hs e0 e1 e2 e3 f0 f1 f2 ex ey eX eY ha hb hb3
    unfold words
    go_enter Tryd.func69,Tryd.ntmps69
    go_wp2_with fail
    exact bodyPost_ret (Qf8 (t:=4) rfl rfl (Qb2 _ _ _ _)) rfl ⟨rfl,ext3 _ _ _ _⟩
end Go.Proofs.YtdoadngmgmdlbaaDoor.Field
end
section
namespace Go.Proofs.YtdoadngmgmdlbaaDoor.Field
open Go Go.RowKit
open Rely
theorem QoX (x0 x1 x2 x3 y0 y1 y2 y3:Int):val x0 x1 x2 x3*val y0 y1 y2 y3=(x0*y0)+18446744073709551616*(x0*y1)+340282366920938463463374607431768211456*(x0*y2)+6277101735386680763835789423207666416102355444464034512896*(x0*y3)+18446744073709551616*(x1*y0)+340282366920938463463374607431768211456*(x1*y1)+6277101735386680763835789423207666416102355444464034512896*(x1*y2)+115792089237316195423570985008687907853269984665640564039457584007913129639936*(x1*y3)+340282366920938463463374607431768211456*(x2*y0)+6277101735386680763835789423207666416102355444464034512896*(x2*y1)+115792089237316195423570985008687907853269984665640564039457584007913129639936*(x2*y2)+2135987035920910082395021706169552114602704522356652769947041607822219725780640550022962086936576*(x2*y3)+6277101735386680763835789423207666416102355444464034512896*(x3*y0)+115792089237316195423570985008687907853269984665640564039457584007913129639936*(x3*y1)+2135987035920910082395021706169552114602704522356652769947041607822219725780640550022962086936576*(x3*y2)+39402006196394479212279040100143613805079739270465446667948293404245721771497210611414266254884915640806627990306816*(x3*y3):=by
  unfold val
  grind
theorem Qna (p00 p01 p02 p03 p10 p11 p12 p13 p20 p21 p22 p23 p30 p31 p32 p33 l00 h00 l01 h01 l02 h02 l03 h03 l10 h10 l11 h11 l12 h12 l13 h13 l20 h20 l21 h21 l22 h22 l23 h23 l30 h30 l31 h31 l32 h32 l33 h33:Int) (q00:l00+18446744073709551616*h00=p00+0+0) (q01:l01+18446744073709551616*h01=p01+0+h00) (q02:l02+18446744073709551616*h02=p02+0+h01) (q03:l03+18446744073709551616*h03=p03+0+h02) (q10:l10+18446744073709551616*h10=p10+l01+0) (q11:l11+18446744073709551616*h11=p11+l02+h10) (q12:l12+18446744073709551616*h12=p12+l03+h11) (q13:l13+18446744073709551616*h13=p13+h03+h12) (q20:l20+18446744073709551616*h20=p20+l11+0) (q21:l21+18446744073709551616*h21=p21+l12+h20) (q22:l22+18446744073709551616*h22=p22+l13+h21) (q23:l23+18446744073709551616*h23=p23+h13+h22) (q30:l30+18446744073709551616*h30=p30+l21+0) (q31:l31+18446744073709551616*h31=p31+l22+h30) (q32:l32+18446744073709551616*h32=p32+l23+h31) (q33:l33+18446744073709551616*h33=p33+h23+h32) :
    l00+18446744073709551616*l10+340282366920938463463374607431768211456*l20+6277101735386680763835789423207666416102355444464034512896*l30+115792089237316195423570985008687907853269984665640564039457584007913129639936*l31+2135987035920910082395021706169552114602704522356652769947041607822219725780640550022962086936576*l32+39402006196394479212279040100143613805079739270465446667948293404245721771497210611414266254884915640806627990306816*l33+726838724295606890549323807888004534353641360687318060281490199180639288113397923326191050713763565560762521606266177933534601628614656*h33=p00+18446744073709551616*p01+340282366920938463463374607431768211456*p02+6277101735386680763835789423207666416102355444464034512896*p03+18446744073709551616*p10+340282366920938463463374607431768211456*p11+6277101735386680763835789423207666416102355444464034512896*p12+115792089237316195423570985008687907853269984665640564039457584007913129639936*p13+340282366920938463463374607431768211456*p20+6277101735386680763835789423207666416102355444464034512896*p21+115792089237316195423570985008687907853269984665640564039457584007913129639936*p22+2135987035920910082395021706169552114602704522356652769947041607822219725780640550022962086936576*p23+6277101735386680763835789423207666416102355444464034512896*p30+115792089237316195423570985008687907853269984665640564039457584007913129639936*p31+2135987035920910082395021706169552114602704522356652769947041607822219725780640550022962086936576*p32+39402006196394479212279040100143613805079739270465446667948293404245721771497210611414266254884915640806627990306816*p33:=by omega
theorem Qnb (w0 w1 w2 w3 w4 w5 w6 w7 r0 r1 r2 r3 k0 k1 k2 k3 v0 v1 v2 c0 c1 c2 Z:Int) (hr3:isW r3) (hz:w0+18446744073709551616*w1+340282366920938463463374607431768211456*w2+6277101735386680763835789423207666416102355444464034512896*w3+115792089237316195423570985008687907853269984665640564039457584007913129639936*w4+2135987035920910082395021706169552114602704522356652769947041607822219725780640550022962086936576*w5+39402006196394479212279040100143613805079739270465446667948293404245721771497210611414266254884915640806627990306816*w6+726838724295606890549323807888004534353641360687318060281490199180639288113397923326191050713763565560762521606266177933534601628614656*w7=Z)
    (g0:r0+18446744073709551616*k0=w4*38+w0+0) (g1:r1+18446744073709551616*k1=w5*38+w1+k0) (g2:r2+18446744073709551616*k2=w6*38+w2+k1) (g3:r3+18446744073709551616*k3=w7*38+w3+k2)
    (f0:v0+18446744073709551616*c0=r0+19*(2*k3+r3/9223372036854775808)+0) (f1:v1+18446744073709551616*c1=r1+0+c0) (f2:v2+18446744073709551616*c2=r2+0+c1) :
    val v0 v1 v2 (r3%9223372036854775808+c2)=Z-p*(2*(w4+18446744073709551616*w5+340282366920938463463374607431768211456*w6+6277101735386680763835789423207666416102355444464034512896*w7)+(2*k3+r3/9223372036854775808)):=by
  have e:=Int.emod_add_mul_ediv r3 9223372036854775808
  unfold val p
  omega
theorem Qlh (r0 r1 r2 r3 k3 v0 v1 v2 c0 c1 c2:Int) (h0:isW r0) (h1:isW r1) (h2:isW r2) (h3:isW r3) (hk:0≤k3∧k3≤39)
    (f0:v0+18446744073709551616*c0=r0+19*(2*k3+r3/9223372036854775808)+0) (f1:v1+18446744073709551616*c1=r1+0+c0) (f2:v2+18446744073709551616*c2=r2+0+c1) :
    val v0 v1 v2 (r3%9223372036854775808+c2)<2*p:=by
  unfold isW at *
  unfold val p
  omega
theorem Qnh (w7 w3 k2 r3 k3:Int) (h1:isW w7) (h2:isW w3) (h3:isW k2) (h4:isW k3) (h5:isW r3) (g3:r3+18446744073709551616*k3=w7*38+w3+k2):0≤k3∧k3≤39:=by unfold isW at *; omega
theorem Qog (r : Int) (h:isW r):0≤r/9223372036854775808∧r/9223372036854775808≤1:=by unfold isW at *; omega
theorem QoZ (r c:Int) (h:isW r) (hc:0≤c∧c≤1):isW (r%9223372036854775808+c):=by unfold isW at *; omega
theorem Qqt (k t:Int) (hk:0≤k∧k≤39) (ht:0≤t∧t≤1):bits .or .u64 (k*2) t=2*k+t:=by
  have h:∀ a:Fin 40,∀ b:Fin 2,bits .or .u64 ((a.val:Int)*2) (b.val:Int)=2*(a.val:Int)+(b.val:Int):=by decide +kernel
  have:=h ⟨k.toNat,by omega⟩ ⟨t.toNat,by omega⟩
  simpa [Int.toNat_of_nonneg hk.1,Int.toNat_of_nonneg ht.1] using this
set_option maxRecDepth 100000 in
theorem mul (a b:Int) (ha:isN a) (hb:isN b) (w:World) :
    Calls Tryd.prog 66 #[num a,num b] w (Ret w (num ((a*b)%p))):=by
  obtain ⟨x0,x1,x2,x3,wx0,wx1,wx2,wx3,ex,eX⟩:=Qcn a ha
  obtain ⟨y0,y1,y2,y3,wy0,wy1,wy2,wy3,ey,eY⟩:=Qcn b hb
  obtain ⟨l00,h00,wl00,wh00,q00,C00⟩:=Qcv x0 y0 0 0 wx0 wy0 Qbz Qbz
  obtain ⟨l01,h01,wl01,wh01,q01,C01⟩:=Qcv x0 y1 0 h00 wx0 wy1 Qbz wh00
  obtain ⟨l02,h02,wl02,wh02,q02,C02⟩:=Qcv x0 y2 0 h01 wx0 wy2 Qbz wh01
  obtain ⟨l03,h03,wl03,wh03,q03,C03⟩:=Qcv x0 y3 0 h02 wx0 wy3 Qbz wh02
  obtain ⟨l10,h10,wl10,wh10,q10,C10⟩:=Qcv x1 y0 l01 0 wx1 wy0 wl01 Qbz
  obtain ⟨l11,h11,wl11,wh11,q11,C11⟩:=Qcv x1 y1 l02 h10 wx1 wy1 wl02 wh10
  obtain ⟨l12,h12,wl12,wh12,q12,C12⟩:=Qcv x1 y2 l03 h11 wx1 wy2 wl03 wh11
  obtain ⟨l13,h13,wl13,wh13,q13,C13⟩:=Qcv x1 y3 h03 h12 wx1 wy3 wh03 wh12
  obtain ⟨l20,h20,wl20,wh20,q20,C20⟩:=Qcv x2 y0 l11 0 wx2 wy0 wl11 Qbz
  obtain ⟨l21,h21,wl21,wh21,q21,C21⟩:=Qcv x2 y1 l12 h20 wx2 wy1 wl12 wh20
  obtain ⟨l22,h22,wl22,wh22,q22,C22⟩:=Qcv x2 y2 l13 h21 wx2 wy2 wl13 wh21
  obtain ⟨l23,h23,wl23,wh23,q23,C23⟩:=Qcv x2 y3 h13 h22 wx2 wy3 wh13 wh22
  obtain ⟨l30,h30,wl30,wh30,q30,C30⟩:=Qcv x3 y0 l21 0 wx3 wy0 wl21 Qbz
  obtain ⟨l31,h31,wl31,wh31,q31,C31⟩:=Qcv x3 y1 l22 h30 wx3 wy1 wl22 wh30
  obtain ⟨l32,h32,wl32,wh32,q32,C32⟩:=Qcv x3 y2 l23 h31 wx3 wy2 wl23 wh31
  obtain ⟨l33,h33,wl33,wh33,q33,C33⟩:=Qcv x3 y3 h23 h32 wx3 wy3 wh23 wh32
  obtain ⟨r0,k0,wr0,wk0,g0,D0⟩:=Qcv l31 38 l00 0 wl31 (by unfold isW; decide) wl00 Qbz
  obtain ⟨r1,k1,wr1,wk1,g1,D1⟩:=Qcv l32 38 l10 k0 wl32 (by unfold isW; decide) wl10 wk0
  obtain ⟨r2,k2,wr2,wk2,g2,D2⟩:=Qcv l33 38 l20 k1 wl33 (by unfold isW; decide) wl20 wk1
  obtain ⟨r3,k3,wr3,wk3,g3,D3⟩:=Qcv h33 38 l30 k2 wh33 (by unfold isW; decide) wl30 wk2
  have hk3:=Qnh h33 l30 k2 r3 k3 wh33 wl30 wk2 wk3 wr3 g3
  have ht:=Qog r3 wr3
  have ob:=Qqt k3 (r3/9223372036854775808) hk3 ht
  have u1:=wrap64 (k3*2) (by unfold isW; omega)
  have u2:=wrap64 (19*(2*k3+r3/9223372036854775808)) (by unfold isW; omega)
  obtain ⟨v0,c0,wv0,wc0,f0,s0⟩:=Qet r0 (19*(2*k3+r3/9223372036854775808)) 0 wr0 (by unfold isW; omega) (by decide)
  obtain ⟨v1,c1,wv1,wc1,f1,s1⟩:=Qet r1 0 c0 wr1 Qbz wc0
  obtain ⟨v2,c2,wv2,wc2,f2,s2⟩:=Qet r2 0 c1 wr2 Qbz wc1
  have to:=Qio r3 wr3
  have wv3:isW (r3%9223372036854775808+c2):=QoZ r3 c2 wr3 wc2
  have u3:=wrap64 _ wv3
  have Z:=(Qna (x0*y0) (x0*y1) (x0*y2) (x0*y3) (x1*y0) (x1*y1) (x1*y2) (x1*y3) (x2*y0) (x2*y1) (x2*y2) (x2*y3) (x3*y0) (x3*y1) (x3*y2) (x3*y3) l00 h00 l01 h01 l02 h02 l03 h03 l10 h10 l11 h11 l12 h12 l13 h13 l20 h20 l21 h21 l22 h22 l23 h23 l30 h30 l31 h31 l32 h32 l33 h33 q00 q01 q02 q03 q10 q11 q12 q13 q20 q21 q22 q23 q30 q31 q32 q33).trans (QoX x0 x1 x2 x3 y0 y1 y2 y3).symm
  rw [ex,ey] at Z
  have F:=Qnb l00 l10 l20 l30 l31 l32 l33 h33 r0 r1 r2 r3 k0 k1 k2 k3 v0 v1 v2 c0 c1 c2 _ wr3 Z g0 g1 g2 g3 f0 f1 f2
  have C:∀ w,Calls Tryd.prog 81 #[.int .u64 v0,.int .u64 v1,.int .u64 v2,.int .u64 (r3%9223372036854775808+c2)] w (Ret w (num ((a*b)%p))):=fun w=>by
    have:=reduced v0 v1 v2 (r3%9223372036854775808+c2) wv0 wv1 wv2 wv3 (Qlh r0 r1 r2 r3 k3 v0 v1 v2 c0 c1 c2 wr0 wr1 wr2 wr3 hk3 f0 f1 f2) w
    rw [F,Int.sub_mul_emod_self_left] at this
    exact this
  clear F Z
  rw [eX,eY]
  generalize (a*b)%p=r at *
  have HC00:=Lib.hid C00
  have HC01:=Lib.hid C01
  have HC02:=Lib.hid C02
  have HC03:=Lib.hid C03
  have HC10:=Lib.hid C10
  have HC11:=Lib.hid C11
  have HC12:=Lib.hid C12
  have HC13:=Lib.hid C13
  have HC20:=Lib.hid C20
  have HC21:=Lib.hid C21
  have HC22:=Lib.hid C22
  have HC23:=Lib.hid C23
  have HC30:=Lib.hid C30
  have HC31:=Lib.hid C31
  have HC32:=Lib.hid C32
  have HC33:=Lib.hid C33
  have HD0:=Lib.hid D0
  have HD1:=Lib.hid D1
  have HD2:=Lib.hid D2
  have HD3:=Lib.hid D3
  have HC:=Lib.hid C
  clear C C00 C01 C02 C03 C10 C11 C12 C13 C20 C21 C22 C23 C30 C31 C32 C33 D0 D1 D2 D3 q00 q01 q02 q03 q10 q11 q12 q13 q20 q21 q22 q23 q30 q31 q32 q33 g0 g1 g2 g3 f0 f1 f2 ex ey eX eY ha hb
  unfold words
  go_enter Tryd.func66,Tryd.ntmps66
  go_wp2_with first
    | (go_at_call 91
       first
         | (with_reducible refine (HC00.out _).mono ?_)
         | (with_reducible refine (HC01.out _).mono ?_)
         | (with_reducible refine (HC02.out _).mono ?_)
         | (with_reducible refine (HC03.out _).mono ?_)
         | (with_reducible refine (HC10.out _).mono ?_)
         | (with_reducible refine (HC11.out _).mono ?_)
         | (with_reducible refine (HC12.out _).mono ?_)
         | (with_reducible refine (HC13.out _).mono ?_)
         | (with_reducible refine (HC20.out _).mono ?_)
         | (with_reducible refine (HC21.out _).mono ?_)
         | (with_reducible refine (HC22.out _).mono ?_)
         | (with_reducible refine (HC23.out _).mono ?_)
         | (with_reducible refine (HC30.out _).mono ?_)
         | (with_reducible refine (HC31.out _).mono ?_)
         | (with_reducible refine (HC32.out _).mono ?_)
         | (with_reducible refine (HC33.out _).mono ?_)
         | (with_reducible refine (HD0.out _).mono ?_)
         | (with_reducible refine (HD1.out _).mono ?_)
         | (with_reducible refine (HD2.out _).mono ?_)
         | (with_reducible refine (HD3.out _).mono ?_)
       rintro e w' ⟨rfl,rfl⟩)
    | (go_at_call 81
       (with_reducible refine (HC.out _).mono ?_)
       rintro e w' ⟨rfl,hw⟩)
    | (with_reducible show wpList _ _ _ ((⟨_,.store 49 _ _,_,_,_,_⟩:Oper)::_) _ _
       refine wpList_store_row rfl 49 _ _ rfl (w.heap.size+2) (numA r) rfl rfl 49 _ ((hw.block _ (by simp)).trans (Qb2 _ _ _ _)) QaU rfl (Qb9 _) ?_)
  exact bodyPost_ret (Qdv (t:=4) rfl rfl (setRow_heap _ _ _ _ _ _ ((hw.block _ (by simp)).trans (Qb2 _ _ _ _)))) rfl ⟨rfl,below_setRow (Ext.trans (ext3 _ _ _ _) hw) (by omega) _⟩
end Go.Proofs.YtdoadngmgmdlbaaDoor.Field
end
section
namespace Go.Proofs.YtdoadngmgmdlbaaDoor.Field
open Go Go.RowKit
open Rely
theorem QoS (a : Int) (h:isW a):bits .and .u64 a 1=a%2:=by
  obtain ⟨A,rfl⟩:=Int.eq_ofNat_of_zero_le h.1
  have h:=bits_and_u64_nat A 1 (by have:=h.2; omega) (by omega)
  have e:A&&&1=A%2:=Nat.and_two_pow_sub_one_eq_mod A 1
  rw [e] at h
  exact h
theorem odd (a : Int) (ha:isN a) (w:World):Calls Tryd.prog 51 #[num a] w (Ret w (.bool (a%2==1))):=by
  obtain ⟨x0,x1,x2,x3,wx0,wx1,wx2,wx3,ex,eX⟩:=Qcn a ha
  have o:=QoS x0 wx0
  have e:a%2=x0%2:=by unfold val at ex; omega
  rw [eX,e]
  clear ex eX ha
  unfold words
  go_enter Tryd.func51,Tryd.ntmps51
  go_wp2_with fail
  go_ret
  exact ⟨rfl,QaG _ _⟩
theorem equal (a b:Int) (ha:isN a) (hb:isN b) (w:World):Calls Tryd.prog 94 #[num a,num b] w (Ret w (.bool (a==b))):=by
  obtain ⟨x0,x1,x2,x3,wx0,wx1,wx2,wx3,ex,eX⟩:=Qcn a ha
  obtain ⟨y0,y1,y2,y3,wy0,wy1,wy2,wy3,ey,eY⟩:=Qcn b hb
  have q:∀ W,(Op.equalIn 9999 47 (.agg #[.int .u64 x0,.int .u64 x1,.int .u64 x2,.int .u64 x3]) (.agg #[.int .u64 y0,.int .u64 y1,.int .u64 y2,.int .u64 y3])).run Tryd.prog W=.ok (a==b) W:=fun W=>by
    have h:=Qdj (P:=Tryd.prog) W 9997 Tryd.underlying47 Tryd.underlying46 kj [x0,x1,x2,x3] [y0,y1,y2,y3] rfl rfl
    have e:decide ([x0,x1,x2,x3]=[y0,y1,y2,y3])=(a==b):=by
      have:[x0,x1,x2,x3]=[y0,y1,y2,y3]↔a=b:=by
        simp only [List.cons.injEq,and_true]
        unfold isW val at *
        constructor <;> omega
      rw [Bool.eq_iff_iff]
      simp only [decide_eq_true_eq,beq_iff_eq,this]
    rw [e] at h
    exact h
  have HQ:=Lib.hid q
  clear q
  rw [eX,eY]
  have q:=HQ.out
  clear HQ ex ey eX eY
  generalize (a==b)=r at *
  unfold words
  cases r
  all_goals
    go_enter Tryd.func94,Tryd.ntmps94
    go_wp2_with fail
    go_ret
    exact ⟨rfl,Ext.trans (QaG _ _) (QaG _ _)⟩
theorem Qf3 (n : Int) (h:0≤n∧n<9223372036854775808) (w:World):Calls Tryd.prog 67 #[.int .i64 n] w (Ret w (num (n%p))):=by
  have hw:=wrap64 n (by unfold isW; omega)
  have e:num (n%p)=words n 0 0 0:=by
    rw [Qeo n 0 0 0 (by unfold isW; omega) Qbz Qbz Qbz]
    congr 1
    unfold val p
    omega
  rw [e]
  have hlt:¬ n<0:=by omega
  unfold words
  go_enter Tryd.func67,Tryd.ntmps67
  go_wp2_with fail
  exact bodyPost_ret (Qf8 (t:=2) rfl rfl (heap_alloc_new w _)) rfl ⟨rfl,QaG _ _⟩
end Go.Proofs.YtdoadngmgmdlbaaDoor.Field
end
section
namespace Go.Proofs.YtdoadngmgmdlbaaDoor.Field
open Go Go.RowKit
open Rely
def Qax (n : Int) (i:Nat):Int:=n/256^i%256
def part (n : Int) (k:Nat):List Int:=(List.range 32).map fun i=>if i<k then Qax n i else 0
def Qaq (n : Int):List Int:=part n 32
theorem wb0 (x0 x1 x2 x3:Int) (h0:isW x0) (h1:isW x1) (h2:isW x2) (h3:isW x3):x0/2^(8*(0%8))%256=Qax (val x0 x1 x2 x3) 0:=by
  have e:(2:Int)^(8*(0%8))=1:=by decide
  have f:(256:Int)^0=1:=by decide
  unfold Qax
  rw [e,f]
  unfold isW val at *
  omega
theorem wb1 (x0 x1 x2 x3:Int) (h0:isW x0) (h1:isW x1) (h2:isW x2) (h3:isW x3):x0/2^(8*(1%8))%256=Qax (val x0 x1 x2 x3) 1:=by
  have e:(2:Int)^(8*(1%8))=256:=by decide
  have f:(256:Int)^1=256:=by decide
  unfold Qax
  rw [e,f]
  unfold isW val at *
  omega
theorem wb2 (x0 x1 x2 x3:Int) (h0:isW x0) (h1:isW x1) (h2:isW x2) (h3:isW x3):x0/2^(8*(2%8))%256=Qax (val x0 x1 x2 x3) 2:=by
  have e:(2:Int)^(8*(2%8))=65536:=by decide
  have f:(256:Int)^2=65536:=by decide
  unfold Qax
  rw [e,f]
  unfold isW val at *
  omega
theorem wb3 (x0 x1 x2 x3:Int) (h0:isW x0) (h1:isW x1) (h2:isW x2) (h3:isW x3):x0/2^(8*(3%8))%256=Qax (val x0 x1 x2 x3) 3:=by
  have e:(2:Int)^(8*(3%8))=16777216:=by decide
  have f:(256:Int)^3=16777216:=by decide
  unfold Qax
  rw [e,f]
  unfold isW val at *
  omega
theorem wb4 (x0 x1 x2 x3:Int) (h0:isW x0) (h1:isW x1) (h2:isW x2) (h3:isW x3):x0/2^(8*(4%8))%256=Qax (val x0 x1 x2 x3) 4:=by
  have e:(2:Int)^(8*(4%8))=4294967296:=by decide
  have f:(256:Int)^4=4294967296:=by decide
  unfold Qax
  rw [e,f]
  unfold isW val at *
  omega
theorem wb5 (x0 x1 x2 x3:Int) (h0:isW x0) (h1:isW x1) (h2:isW x2) (h3:isW x3):x0/2^(8*(5%8))%256=Qax (val x0 x1 x2 x3) 5:=by
  have e:(2:Int)^(8*(5%8))=1099511627776:=by decide
  have f:(256:Int)^5=1099511627776:=by decide
  unfold Qax
  rw [e,f]
  unfold isW val at *
  omega
theorem wb6 (x0 x1 x2 x3:Int) (h0:isW x0) (h1:isW x1) (h2:isW x2) (h3:isW x3):x0/2^(8*(6%8))%256=Qax (val x0 x1 x2 x3) 6:=by
  have e:(2:Int)^(8*(6%8))=281474976710656:=by decide
  have f:(256:Int)^6=281474976710656:=by decide
  unfold Qax
  rw [e,f]
  unfold isW val at *
  omega
theorem wb7 (x0 x1 x2 x3:Int) (h0:isW x0) (h1:isW x1) (h2:isW x2) (h3:isW x3):x0/2^(8*(7%8))%256=Qax (val x0 x1 x2 x3) 7:=by
  have e:(2:Int)^(8*(7%8))=72057594037927936:=by decide
  have f:(256:Int)^7=72057594037927936:=by decide
  unfold Qax
  rw [e,f]
  unfold isW val at *
  omega
theorem wb8 (x0 x1 x2 x3:Int) (h0:isW x0) (h1:isW x1) (h2:isW x2) (h3:isW x3):x1/2^(8*(8%8))%256=Qax (val x0 x1 x2 x3) 8:=by
  have e:(2:Int)^(8*(8%8))=1:=by decide
  have f:(256:Int)^8=18446744073709551616:=by decide
  unfold Qax
  rw [e,f]
  unfold isW val at *
  omega
theorem wb9 (x0 x1 x2 x3:Int) (h0:isW x0) (h1:isW x1) (h2:isW x2) (h3:isW x3):x1/2^(8*(9%8))%256=Qax (val x0 x1 x2 x3) 9:=by
  have e:(2:Int)^(8*(9%8))=256:=by decide
  have f:(256:Int)^9=4722366482869645213696:=by decide
  unfold Qax
  rw [e,f]
  unfold isW val at *
  omega
theorem wb10 (x0 x1 x2 x3:Int) (h0:isW x0) (h1:isW x1) (h2:isW x2) (h3:isW x3):x1/2^(8*(10%8))%256=Qax (val x0 x1 x2 x3) 10:=by
  have e:(2:Int)^(8*(10%8))=65536:=by decide
  have f:(256:Int)^10=1208925819614629174706176:=by decide
  unfold Qax
  rw [e,f]
  unfold isW val at *
  omega
theorem wb11 (x0 x1 x2 x3:Int) (h0:isW x0) (h1:isW x1) (h2:isW x2) (h3:isW x3):x1/2^(8*(11%8))%256=Qax (val x0 x1 x2 x3) 11:=by
  have e:(2:Int)^(8*(11%8))=16777216:=by decide
  have f:(256:Int)^11=309485009821345068724781056:=by decide
  unfold Qax
  rw [e,f]
  unfold isW val at *
  omega
theorem wb12 (x0 x1 x2 x3:Int) (h0:isW x0) (h1:isW x1) (h2:isW x2) (h3:isW x3):x1/2^(8*(12%8))%256=Qax (val x0 x1 x2 x3) 12:=by
  have e:(2:Int)^(8*(12%8))=4294967296:=by decide
  have f:(256:Int)^12=79228162514264337593543950336:=by decide
  unfold Qax
  rw [e,f]
  unfold isW val at *
  omega
theorem wb13 (x0 x1 x2 x3:Int) (h0:isW x0) (h1:isW x1) (h2:isW x2) (h3:isW x3):x1/2^(8*(13%8))%256=Qax (val x0 x1 x2 x3) 13:=by
  have e:(2:Int)^(8*(13%8))=1099511627776:=by decide
  have f:(256:Int)^13=20282409603651670423947251286016:=by decide
  unfold Qax
  rw [e,f]
  unfold isW val at *
  omega
theorem wb14 (x0 x1 x2 x3:Int) (h0:isW x0) (h1:isW x1) (h2:isW x2) (h3:isW x3):x1/2^(8*(14%8))%256=Qax (val x0 x1 x2 x3) 14:=by
  have e:(2:Int)^(8*(14%8))=281474976710656:=by decide
  have f:(256:Int)^14=5192296858534827628530496329220096:=by decide
  unfold Qax
  rw [e,f]
  unfold isW val at *
  omega
theorem wb15 (x0 x1 x2 x3:Int) (h0:isW x0) (h1:isW x1) (h2:isW x2) (h3:isW x3):x1/2^(8*(15%8))%256=Qax (val x0 x1 x2 x3) 15:=by
  have e:(2:Int)^(8*(15%8))=72057594037927936:=by decide
  have f:(256:Int)^15=1329227995784915872903807060280344576:=by decide
  unfold Qax
  rw [e,f]
  unfold isW val at *
  omega
theorem wb16 (x0 x1 x2 x3:Int) (h0:isW x0) (h1:isW x1) (h2:isW x2) (h3:isW x3):x2/2^(8*(16%8))%256=Qax (val x0 x1 x2 x3) 16:=by
  have e:(2:Int)^(8*(16%8))=1:=by decide
  have f:(256:Int)^16=340282366920938463463374607431768211456:=by decide
  unfold Qax
  rw [e,f]
  unfold isW val at *
  omega
theorem wb17 (x0 x1 x2 x3:Int) (h0:isW x0) (h1:isW x1) (h2:isW x2) (h3:isW x3):x2/2^(8*(17%8))%256=Qax (val x0 x1 x2 x3) 17:=by
  have e:(2:Int)^(8*(17%8))=256:=by decide
  have f:(256:Int)^17=87112285931760246646623899502532662132736:=by decide
  unfold Qax
  rw [e,f]
  unfold isW val at *
  omega
theorem wb18 (x0 x1 x2 x3:Int) (h0:isW x0) (h1:isW x1) (h2:isW x2) (h3:isW x3):x2/2^(8*(18%8))%256=Qax (val x0 x1 x2 x3) 18:=by
  have e:(2:Int)^(8*(18%8))=65536:=by decide
  have f:(256:Int)^18=22300745198530623141535718272648361505980416:=by decide
  unfold Qax
  rw [e,f]
  unfold isW val at *
  omega
theorem wb19 (x0 x1 x2 x3:Int) (h0:isW x0) (h1:isW x1) (h2:isW x2) (h3:isW x3):x2/2^(8*(19%8))%256=Qax (val x0 x1 x2 x3) 19:=by
  have e:(2:Int)^(8*(19%8))=16777216:=by decide
  have f:(256:Int)^19=5708990770823839524233143877797980545530986496:=by decide
  unfold Qax
  rw [e,f]
  unfold isW val at *
  omega
theorem wb20 (x0 x1 x2 x3:Int) (h0:isW x0) (h1:isW x1) (h2:isW x2) (h3:isW x3):x2/2^(8*(20%8))%256=Qax (val x0 x1 x2 x3) 20:=by
  have e:(2:Int)^(8*(20%8))=4294967296:=by decide
  have f:(256:Int)^20=1461501637330902918203684832716283019655932542976:=by decide
  unfold Qax
  rw [e,f]
  unfold isW val at *
  omega
theorem wb21 (x0 x1 x2 x3:Int) (h0:isW x0) (h1:isW x1) (h2:isW x2) (h3:isW x3):x2/2^(8*(21%8))%256=Qax (val x0 x1 x2 x3) 21:=by
  have e:(2:Int)^(8*(21%8))=1099511627776:=by decide
  have f:(256:Int)^21=374144419156711147060143317175368453031918731001856:=by decide
  unfold Qax
  rw [e,f]
  unfold isW val at *
  omega
theorem wb22 (x0 x1 x2 x3:Int) (h0:isW x0) (h1:isW x1) (h2:isW x2) (h3:isW x3):x2/2^(8*(22%8))%256=Qax (val x0 x1 x2 x3) 22:=by
  have e:(2:Int)^(8*(22%8))=281474976710656:=by decide
  have f:(256:Int)^22=95780971304118053647396689196894323976171195136475136:=by decide
  unfold Qax
  rw [e,f]
  unfold isW val at *
  omega
theorem wb23 (x0 x1 x2 x3:Int) (h0:isW x0) (h1:isW x1) (h2:isW x2) (h3:isW x3):x2/2^(8*(23%8))%256=Qax (val x0 x1 x2 x3) 23:=by
  have e:(2:Int)^(8*(23%8))=72057594037927936:=by decide
  have f:(256:Int)^23=24519928653854221733733552434404946937899825954937634816:=by decide
  unfold Qax
  rw [e,f]
  unfold isW val at *
  omega
theorem wb24 (x0 x1 x2 x3:Int) (h0:isW x0) (h1:isW x1) (h2:isW x2) (h3:isW x3):x3/2^(8*(24%8))%256=Qax (val x0 x1 x2 x3) 24:=by
  have e:(2:Int)^(8*(24%8))=1:=by decide
  have f:(256:Int)^24=6277101735386680763835789423207666416102355444464034512896:=by decide
  unfold Qax
  rw [e,f]
  unfold isW val at *
  omega
theorem wb25 (x0 x1 x2 x3:Int) (h0:isW x0) (h1:isW x1) (h2:isW x2) (h3:isW x3):x3/2^(8*(25%8))%256=Qax (val x0 x1 x2 x3) 25:=by
  have e:(2:Int)^(8*(25%8))=256:=by decide
  have f:(256:Int)^25=1606938044258990275541962092341162602522202993782792835301376:=by decide
  unfold Qax
  rw [e,f]
  unfold isW val at *
  omega
theorem wb26 (x0 x1 x2 x3:Int) (h0:isW x0) (h1:isW x1) (h2:isW x2) (h3:isW x3):x3/2^(8*(26%8))%256=Qax (val x0 x1 x2 x3) 26:=by
  have e:(2:Int)^(8*(26%8))=65536:=by decide
  have f:(256:Int)^26=411376139330301510538742295639337626245683966408394965837152256:=by decide
  unfold Qax
  rw [e,f]
  unfold isW val at *
  omega
theorem wb27 (x0 x1 x2 x3:Int) (h0:isW x0) (h1:isW x1) (h2:isW x2) (h3:isW x3):x3/2^(8*(27%8))%256=Qax (val x0 x1 x2 x3) 27:=by
  have e:(2:Int)^(8*(27%8))=16777216:=by decide
  have f:(256:Int)^27=105312291668557186697918027683670432318895095400549111254310977536:=by decide
  unfold Qax
  rw [e,f]
  unfold isW val at *
  omega
theorem wb28 (x0 x1 x2 x3:Int) (h0:isW x0) (h1:isW x1) (h2:isW x2) (h3:isW x3):x3/2^(8*(28%8))%256=Qax (val x0 x1 x2 x3) 28:=by
  have e:(2:Int)^(8*(28%8))=4294967296:=by decide
  have f:(256:Int)^28=26959946667150639794667015087019630673637144422540572481103610249216:=by decide
  unfold Qax
  rw [e,f]
  unfold isW val at *
  omega
theorem wb29 (x0 x1 x2 x3:Int) (h0:isW x0) (h1:isW x1) (h2:isW x2) (h3:isW x3):x3/2^(8*(29%8))%256=Qax (val x0 x1 x2 x3) 29:=by
  have e:(2:Int)^(8*(29%8))=1099511627776:=by decide
  have f:(256:Int)^29=6901746346790563787434755862277025452451108972170386555162524223799296:=by decide
  unfold Qax
  rw [e,f]
  unfold isW val at *
  omega
theorem wb30 (x0 x1 x2 x3:Int) (h0:isW x0) (h1:isW x1) (h2:isW x2) (h3:isW x3):x3/2^(8*(30%8))%256=Qax (val x0 x1 x2 x3) 30:=by
  have e:(2:Int)^(8*(30%8))=281474976710656:=by decide
  have f:(256:Int)^30=1766847064778384329583297500742918515827483896875618958121606201292619776:=by decide
  unfold Qax
  rw [e,f]
  unfold isW val at *
  omega
theorem wb31 (x0 x1 x2 x3:Int) (h0:isW x0) (h1:isW x1) (h2:isW x2) (h3:isW x3):x3/2^(8*(31%8))%256=Qax (val x0 x1 x2 x3) 31:=by
  have e:(2:Int)^(8*(31%8))=72057594037927936:=by decide
  have f:(256:Int)^31=452312848583266388373324160190187140051835877600158453279131187530910662656:=by decide
  unfold Qax
  rw [e,f]
  unfold isW val at *
  omega
theorem QnZ (x0 x1 x2 x3 n:Int) (h0:isW x0) (h1:isW x1) (h2:isW x2) (h3:isW x3) (e:val x0 x1 x2 x3=n) (k:Nat) (hk:k<32) :
    ∃ y,isW y∧(#[Value.int .u64 x0,.int .u64 x1,.int .u64 x2,.int .u64 x3]:Array Value)[k/8]? = some (.int .u64 y)∧y/2^(8*(k%8))%256=Qax n k:=by
  subst e
  rcases (by omega:k=0∨k=1∨k=2∨k=3∨k=4∨k=5∨k=6∨k=7∨k=8∨k=9∨k=10∨k=11∨k=12∨k=13∨k=14∨k=15∨k=16∨k=17∨k=18∨k=19∨k=20∨k=21∨k=22∨k=23∨k=24∨k=25∨k=26∨k=27∨k=28∨k=29∨k=30∨k=31) with rfl | rfl | rfl | rfl | rfl | rfl | rfl | rfl | rfl | rfl | rfl | rfl | rfl | rfl | rfl | rfl | rfl | rfl | rfl | rfl | rfl | rfl | rfl | rfl | rfl | rfl | rfl | rfl | rfl | rfl | rfl | rfl
  · exact ⟨x0,h0,rfl,wb0 x0 x1 x2 x3 h0 h1 h2 h3⟩
  · exact ⟨x0,h0,rfl,wb1 x0 x1 x2 x3 h0 h1 h2 h3⟩
  · exact ⟨x0,h0,rfl,wb2 x0 x1 x2 x3 h0 h1 h2 h3⟩
  · exact ⟨x0,h0,rfl,wb3 x0 x1 x2 x3 h0 h1 h2 h3⟩
  · exact ⟨x0,h0,rfl,wb4 x0 x1 x2 x3 h0 h1 h2 h3⟩
  · exact ⟨x0,h0,rfl,wb5 x0 x1 x2 x3 h0 h1 h2 h3⟩
  · exact ⟨x0,h0,rfl,wb6 x0 x1 x2 x3 h0 h1 h2 h3⟩
  · exact ⟨x0,h0,rfl,wb7 x0 x1 x2 x3 h0 h1 h2 h3⟩
  · exact ⟨x1,h1,rfl,wb8 x0 x1 x2 x3 h0 h1 h2 h3⟩
  · exact ⟨x1,h1,rfl,wb9 x0 x1 x2 x3 h0 h1 h2 h3⟩
  · exact ⟨x1,h1,rfl,wb10 x0 x1 x2 x3 h0 h1 h2 h3⟩
  · exact ⟨x1,h1,rfl,wb11 x0 x1 x2 x3 h0 h1 h2 h3⟩
  · exact ⟨x1,h1,rfl,wb12 x0 x1 x2 x3 h0 h1 h2 h3⟩
  · exact ⟨x1,h1,rfl,wb13 x0 x1 x2 x3 h0 h1 h2 h3⟩
  · exact ⟨x1,h1,rfl,wb14 x0 x1 x2 x3 h0 h1 h2 h3⟩
  · exact ⟨x1,h1,rfl,wb15 x0 x1 x2 x3 h0 h1 h2 h3⟩
  · exact ⟨x2,h2,rfl,wb16 x0 x1 x2 x3 h0 h1 h2 h3⟩
  · exact ⟨x2,h2,rfl,wb17 x0 x1 x2 x3 h0 h1 h2 h3⟩
  · exact ⟨x2,h2,rfl,wb18 x0 x1 x2 x3 h0 h1 h2 h3⟩
  · exact ⟨x2,h2,rfl,wb19 x0 x1 x2 x3 h0 h1 h2 h3⟩
  · exact ⟨x2,h2,rfl,wb20 x0 x1 x2 x3 h0 h1 h2 h3⟩
  · exact ⟨x2,h2,rfl,wb21 x0 x1 x2 x3 h0 h1 h2 h3⟩
  · exact ⟨x2,h2,rfl,wb22 x0 x1 x2 x3 h0 h1 h2 h3⟩
  · exact ⟨x2,h2,rfl,wb23 x0 x1 x2 x3 h0 h1 h2 h3⟩
  · exact ⟨x3,h3,rfl,wb24 x0 x1 x2 x3 h0 h1 h2 h3⟩
  · exact ⟨x3,h3,rfl,wb25 x0 x1 x2 x3 h0 h1 h2 h3⟩
  · exact ⟨x3,h3,rfl,wb26 x0 x1 x2 x3 h0 h1 h2 h3⟩
  · exact ⟨x3,h3,rfl,wb27 x0 x1 x2 x3 h0 h1 h2 h3⟩
  · exact ⟨x3,h3,rfl,wb28 x0 x1 x2 x3 h0 h1 h2 h3⟩
  · exact ⟨x3,h3,rfl,wb29 x0 x1 x2 x3 h0 h1 h2 h3⟩
  · exact ⟨x3,h3,rfl,wb30 x0 x1 x2 x3 h0 h1 h2 h3⟩
  · exact ⟨x3,h3,rfl,wb31 x0 x1 x2 x3 h0 h1 h2 h3⟩
theorem QgP (n : Int) (k:Nat) (hk:k<32):(ints .u8 (part n k))[k]? = some (.int .u8 0):=by
  rw [Qar _ _ _ (by simp [part,hk])]
  simp [nth,part,hk]
theorem QgO (n : Int) (k:Nat) (hk:k<32):(ints .u8 (part n k)).setIfInBounds k (.int .u8 (Qax n k))=ints .u8 (part n (k+1)):=by
  rw [Qbx]
  congr 1
  apply List.ext_getElem
  · simp [part]
  · intro i h1 h2
    simp only [part,List.getElem_set,List.getElem_map,List.getElem_range]
    by_cases hi:k=i
    · subst hi; simp
    · simp only [hi,if_false]
      by_cases hl:i<k
      · rw [if_pos hl,if_pos (by omega)]
      · rw [if_neg hl,if_neg (by omega)]
theorem QbW (w : World) (a b c:Obj):(((w.alloc a).alloc b).alloc c).heap[w.heap.size+1]? = some b:=by
  rw [Below.heap_alloc _ _ _ (by simp)]
  have:=heap_alloc_new (w.alloc a) b
  simpa using this
theorem infoKey : (Tryd.prog.info? 23).map (·.size)=some 32:=kj
theorem ints_one (k : IntKind) (xs:List Int):(ints k xs).all (·.oneCell')=true:=by simp [ints,Value.oneCell']
theorem bytes (n : Int) (hn:isN n) (w:World):Calls Tryd.prog 50 #[num n] w (Ret w (.agg (ints .u8 (Qaq n)))):=by
  obtain ⟨x0,x1,x2,x3,wx0,wx1,wx2,wx3,ex,eX⟩:=Qcn n hn
  rw [eX]
  clear eX
  unfold words
  go_enter Tryd.func50,Tryd.ntmps50
  go_wp2_with fail
  go_loopw [5] (fun i wr=>∃ k:Nat,k≤32∧i=.int .i64 k∧∃ b,b.size=32∧wr=((w.alloc (.cells #[.int .u64 x0,.int .u64 x1,.int .u64 x2,.int .u64 x3] 49)).alloc (.cells b 23)).alloc (.cells (ints .u8 (part n k)) 23)) (fun i _=>32-(intOf i).toNat)
  case atStart=>exact ⟨0,by omega,rfl,_,rfl,rfl⟩
  case round =>
    obtain ⟨k,hk,rfl,b,hbs,rfl⟩:=hrel
    by_cases hlt:k<32
    · obtain ⟨y,wy,hy,hby⟩:=QnZ x0 x1 x2 x3 n wx0 wx1 wx2 wx3 ex k hlt
      have hg:=QgP n k hlt
      have hs:=QgO n k hlt
      go_wp2
      exact ⟨⟨k+1,by omega,by go_num,b,hbs,rfl⟩,by simp [intOf]; omega⟩
    · obtain rfl:k=32:=by omega
      have hi:(Tryd.prog.info? 23).map (·.size)=some (ints .u8 (Qaq n)).size:=by rw [infoKey,Qad]; rfl
      have hbl:b.size=(ints .u8 (Qaq n)).size:=by rw [hbs,Qad]; rfl
      go_wp2_with first
        | (with_reducible show wpList _ _ _ ((⟨_,.load 23 _,_,_,_,_⟩:Oper)::_) _ _
           refine wpList_load_row rfl 23 _ rfl (w.heap.size+2) rfl 23 (ints .u8 (Qaq n)) (0,0) _ (Qb2 _ _ _ _) Tryd.underlying23 rfl hi ?_)
        | (with_reducible show wpList _ _ _ ((⟨_,.store 23 _ _,_,_,_,_⟩:Oper)::_) _ _
           refine wpList_store_row rfl 23 _ _ rfl (w.heap.size+1) (ints .u8 (Qaq n)) rfl rfl 23 _ (QbW _ _ _ _) hi hbl (ints_one _ _) ?_)
      exact bodyPost_ret (v:=.agg (ints .u8 (Qaq n))) (results_cell_row (p:=2) rfl _ _ (w.heap.size+1) 23 (ints .u8 (Qaq n)) (0,0) _ rfl (setRow_heap _ _ _ _ _ _ (QbW _ _ _ _)) Tryd.underlying23 rfl hi) rfl ⟨rfl,below_setRow (ext3 _ _ _ _) (by omega) _⟩
end Go.Proofs.YtdoadngmgmdlbaaDoor.Field
end
section
namespace Go.Proofs.YtdoadngmgmdlbaaDoor.Field
open Go Go.RowKit
open Rely
def Drew (w w':World):Prop:=∃ n,w'=w.drewN n
theorem Drew.refl (w : World):Drew w w:=⟨0,rfl⟩
theorem Drew.trans {a b c:World}:Drew a b→Drew b c→Drew a c:=fun ⟨m,h⟩ ⟨n,k⟩=>⟨m+n,by subst h; subst k; simp⟩
theorem run_index_ints {P : Program} (W:World) {t e:TypeId} {n:Nat} {k ki:IntKind} (ht:P.underlying t=some (.array n e)) (he:P.underlying e=some (.int k)) (hq:(P.info? e).map (·.size)=some 1)
    (xs:List Int) (hl:xs.length=n) (i:Nat) (hi:i<n):(Instr.index t (.agg (ints k xs)) (.int ki (i:Int))).run P W=.ok (.int k (nth xs i)) W:=by
  have hp:P.plainKey e=true:=by simp [Program.plainKey,he]
  have a1:=run_part_plain W hp (Qar k xs i (by omega))
  unfold Instr.index
  cases hI:P.info? e with
  | none=>simp [hI] at hq
  | some inf =>
    have hs:inf.size=1:=by simpa [hI] using hq
    have h1:((0:Int)≤(i:Int)∧(i:Int)<(n:Int)):=by omega
    simp [asIntOf,run_underlying ht,Sem.run_bind,sizeOf,typeInfo,hI,hs,hi,a1]
def leAt (xs : List Int) (o:Nat):Nat→Int
  | 0=>0
  | m+1=>leAt xs o m+nth xs (o+m)*256^m
def pw (xs : List Int) (k:Nat):List Int:=[leAt xs 0 (min 8 k),leAt xs 8 (min 8 (k-8)),leAt xs 16 (min 8 (k-16)),leAt xs 24 (min 8 (k-24))]
theorem QbV (xs : List Int) (hb:Qaj xs) (o:Nat):∀ m,0≤leAt xs o m∧leAt xs o m<256^m
  | 0=>by simp [leAt]
  | m+1=>by
    have ih:=QbV xs hb o m
    have h:=hb.nth (o+m)
    have hp:(0:Int)≤256^m:=by have:=ih.1; have:=ih.2; omega
    have h1:0≤nth xs (o+m)*256^m:=Int.mul_nonneg h.1 hp
    have h2:nth xs (o+m)*256^m≤255*256^m:=Int.mul_le_mul_of_nonneg_right h.2 hp
    have e:(256:Int)^(m+1)=256*256^m:=by rw [Int.pow_succ,Int.mul_comm]
    rw [leAt,e]
    have:=ih.1
    have:=ih.2
    omega
theorem QmO (s x:Int) (m:Nat) (hm:m<8) (hs:0≤s∧s<256^m) (hx:0≤x∧x≤255) :
    bits .or .u64 s (x*2^(8*m))=s+x*256^m∧0≤x*2^(8*m)∧x*2^(8*m)<18446744073709551616:=by
  obtain ⟨S,rfl⟩:=Int.eq_ofNat_of_zero_le hs.1
  obtain ⟨X,rfl⟩:=Int.eq_ofNat_of_zero_le hx.1
  have key:∀ i:Nat,S<2^i→X*2^i<18446744073709551616→S<18446744073709551616→bits .or .u64 (S:Int) ((X*2^i:Nat):Int)=((S+X*2^i:Nat):Int):=fun i h1 h2 h3=>by
    rw [u64_or_nat S _ h3 h2,Nat.or_comm,Nat.mul_comm,←Nat.two_pow_add_eq_or_of_lt h1,Nat.add_comm]
  have hX:X≤255:=by omega
  rcases (by omega:m=0∨m=1∨m=2∨m=3∨m=4∨m=5∨m=6∨m=7) with rfl | rfl | rfl | rfl | rfl | rfl | rfl | rfl
  · have h:=key 0 (by have:=hs.2; omega) (by omega) (by have:=hs.2; omega)
    have e:(2:Int)^(8*0)=1:=by decide
    have f:(256:Int)^0=1:=by decide
    rw [e,f]
    refine ⟨?_,by omega,by omega⟩
    have g:((X*2^0:Nat):Int)=(X:Int)*1:=by omega
    rw [g] at h
    rw [h]
    omega
  · have h:=key 8 (by have:=hs.2; omega) (by omega) (by have:=hs.2; omega)
    have e:(2:Int)^(8*1)=256:=by decide
    have f:(256:Int)^1=256:=by decide
    rw [e,f]
    refine ⟨?_,by omega,by omega⟩
    have g:((X*2^8:Nat):Int)=(X:Int)*256:=by omega
    rw [g] at h
    rw [h]
    omega
  · have h:=key 16 (by have:=hs.2; omega) (by omega) (by have:=hs.2; omega)
    have e:(2:Int)^(8*2)=65536:=by decide
    have f:(256:Int)^2=65536:=by decide
    rw [e,f]
    refine ⟨?_,by omega,by omega⟩
    have g:((X*2^16:Nat):Int)=(X:Int)*65536:=by omega
    rw [g] at h
    rw [h]
    omega
  · have h:=key 24 (by have:=hs.2; omega) (by omega) (by have:=hs.2; omega)
    have e:(2:Int)^(8*3)=16777216:=by decide
    have f:(256:Int)^3=16777216:=by decide
    rw [e,f]
    refine ⟨?_,by omega,by omega⟩
    have g:((X*2^24:Nat):Int)=(X:Int)*16777216:=by omega
    rw [g] at h
    rw [h]
    omega
  · have h:=key 32 (by have:=hs.2; omega) (by omega) (by have:=hs.2; omega)
    have e:(2:Int)^(8*4)=4294967296:=by decide
    have f:(256:Int)^4=4294967296:=by decide
    rw [e,f]
    refine ⟨?_,by omega,by omega⟩
    have g:((X*2^32:Nat):Int)=(X:Int)*4294967296:=by omega
    rw [g] at h
    rw [h]
    omega
  · have h:=key 40 (by have:=hs.2; omega) (by omega) (by have:=hs.2; omega)
    have e:(2:Int)^(8*5)=1099511627776:=by decide
    have f:(256:Int)^5=1099511627776:=by decide
    rw [e,f]
    refine ⟨?_,by omega,by omega⟩
    have g:((X*2^40:Nat):Int)=(X:Int)*1099511627776:=by omega
    rw [g] at h
    rw [h]
    omega
  · have h:=key 48 (by have:=hs.2; omega) (by omega) (by have:=hs.2; omega)
    have e:(2:Int)^(8*6)=281474976710656:=by decide
    have f:(256:Int)^6=281474976710656:=by decide
    rw [e,f]
    refine ⟨?_,by omega,by omega⟩
    have g:((X*2^48:Nat):Int)=(X:Int)*281474976710656:=by omega
    rw [g] at h
    rw [h]
    omega
  · have h:=key 56 (by have:=hs.2; omega) (by omega) (by have:=hs.2; omega)
    have e:(2:Int)^(8*7)=72057594037927936:=by decide
    have f:(256:Int)^7=72057594037927936:=by decide
    rw [e,f]
    refine ⟨?_,by omega,by omega⟩
    have g:((X*2^56:Nat):Int)=(X:Int)*72057594037927936:=by omega
    rw [g] at h
    rw [h]
    omega
theorem Qm8 (xs : List Int) (hb:Qaj xs) (k:Nat) (hk:k<32):∃ s s',(ints .u64 (pw xs k))[k/8]? = some (.int .u64 s) ∧
    IntKind.u64.wrap (nth xs k*2^(8*(k%8)))=nth xs k*2^(8*(k%8)) ∧
    bits .or .u64 s (nth xs k*2^(8*(k%8)))=s'∧(ints .u64 (pw xs k)).setIfInBounds (k/8) (.int .u64 s')=ints .u64 (pw xs (k+1)):=by
  have key:=fun o m (hm:m<8)=>QmO (leAt xs o m) (nth xs (o+m)) m hm (QbV xs hb o m) (hb.nth (o+m))
  rcases (by omega:k=0∨k=1∨k=2∨k=3∨k=4∨k=5∨k=6∨k=7∨k=8∨k=9∨k=10∨k=11∨k=12∨k=13∨k=14∨k=15∨k=16∨k=17∨k=18∨k=19∨k=20∨k=21∨k=22∨k=23∨k=24∨k=25∨k=26∨k=27∨k=28∨k=29∨k=30∨k=31) with rfl | rfl | rfl | rfl | rfl | rfl | rfl | rfl | rfl | rfl | rfl | rfl | rfl | rfl | rfl | rfl | rfl | rfl | rfl | rfl | rfl | rfl | rfl | rfl | rfl | rfl | rfl | rfl | rfl | rfl | rfl | rfl
  · exact ⟨leAt xs 0 0,leAt xs 0 1,rfl,wrap64 _ (key 0 0 (by decide)).2,(key 0 0 (by decide)).1,rfl⟩
  · exact ⟨leAt xs 0 1,leAt xs 0 2,rfl,wrap64 _ (key 0 1 (by decide)).2,(key 0 1 (by decide)).1,rfl⟩
  · exact ⟨leAt xs 0 2,leAt xs 0 3,rfl,wrap64 _ (key 0 2 (by decide)).2,(key 0 2 (by decide)).1,rfl⟩
  · exact ⟨leAt xs 0 3,leAt xs 0 4,rfl,wrap64 _ (key 0 3 (by decide)).2,(key 0 3 (by decide)).1,rfl⟩
  · exact ⟨leAt xs 0 4,leAt xs 0 5,rfl,wrap64 _ (key 0 4 (by decide)).2,(key 0 4 (by decide)).1,rfl⟩
  · exact ⟨leAt xs 0 5,leAt xs 0 6,rfl,wrap64 _ (key 0 5 (by decide)).2,(key 0 5 (by decide)).1,rfl⟩
  · exact ⟨leAt xs 0 6,leAt xs 0 7,rfl,wrap64 _ (key 0 6 (by decide)).2,(key 0 6 (by decide)).1,rfl⟩
  · exact ⟨leAt xs 0 7,leAt xs 0 8,rfl,wrap64 _ (key 0 7 (by decide)).2,(key 0 7 (by decide)).1,rfl⟩
  · exact ⟨leAt xs 8 0,leAt xs 8 1,rfl,wrap64 _ (key 8 0 (by decide)).2,(key 8 0 (by decide)).1,rfl⟩
  · exact ⟨leAt xs 8 1,leAt xs 8 2,rfl,wrap64 _ (key 8 1 (by decide)).2,(key 8 1 (by decide)).1,rfl⟩
  · exact ⟨leAt xs 8 2,leAt xs 8 3,rfl,wrap64 _ (key 8 2 (by decide)).2,(key 8 2 (by decide)).1,rfl⟩
  · exact ⟨leAt xs 8 3,leAt xs 8 4,rfl,wrap64 _ (key 8 3 (by decide)).2,(key 8 3 (by decide)).1,rfl⟩
  · exact ⟨leAt xs 8 4,leAt xs 8 5,rfl,wrap64 _ (key 8 4 (by decide)).2,(key 8 4 (by decide)).1,rfl⟩
  · exact ⟨leAt xs 8 5,leAt xs 8 6,rfl,wrap64 _ (key 8 5 (by decide)).2,(key 8 5 (by decide)).1,rfl⟩
  · exact ⟨leAt xs 8 6,leAt xs 8 7,rfl,wrap64 _ (key 8 6 (by decide)).2,(key 8 6 (by decide)).1,rfl⟩
  · exact ⟨leAt xs 8 7,leAt xs 8 8,rfl,wrap64 _ (key 8 7 (by decide)).2,(key 8 7 (by decide)).1,rfl⟩
  · exact ⟨leAt xs 16 0,leAt xs 16 1,rfl,wrap64 _ (key 16 0 (by decide)).2,(key 16 0 (by decide)).1,rfl⟩
  · exact ⟨leAt xs 16 1,leAt xs 16 2,rfl,wrap64 _ (key 16 1 (by decide)).2,(key 16 1 (by decide)).1,rfl⟩
  · exact ⟨leAt xs 16 2,leAt xs 16 3,rfl,wrap64 _ (key 16 2 (by decide)).2,(key 16 2 (by decide)).1,rfl⟩
  · exact ⟨leAt xs 16 3,leAt xs 16 4,rfl,wrap64 _ (key 16 3 (by decide)).2,(key 16 3 (by decide)).1,rfl⟩
  · exact ⟨leAt xs 16 4,leAt xs 16 5,rfl,wrap64 _ (key 16 4 (by decide)).2,(key 16 4 (by decide)).1,rfl⟩
  · exact ⟨leAt xs 16 5,leAt xs 16 6,rfl,wrap64 _ (key 16 5 (by decide)).2,(key 16 5 (by decide)).1,rfl⟩
  · exact ⟨leAt xs 16 6,leAt xs 16 7,rfl,wrap64 _ (key 16 6 (by decide)).2,(key 16 6 (by decide)).1,rfl⟩
  · exact ⟨leAt xs 16 7,leAt xs 16 8,rfl,wrap64 _ (key 16 7 (by decide)).2,(key 16 7 (by decide)).1,rfl⟩
  · exact ⟨leAt xs 24 0,leAt xs 24 1,rfl,wrap64 _ (key 24 0 (by decide)).2,(key 24 0 (by decide)).1,rfl⟩
  · exact ⟨leAt xs 24 1,leAt xs 24 2,rfl,wrap64 _ (key 24 1 (by decide)).2,(key 24 1 (by decide)).1,rfl⟩
  · exact ⟨leAt xs 24 2,leAt xs 24 3,rfl,wrap64 _ (key 24 2 (by decide)).2,(key 24 2 (by decide)).1,rfl⟩
  · exact ⟨leAt xs 24 3,leAt xs 24 4,rfl,wrap64 _ (key 24 3 (by decide)).2,(key 24 3 (by decide)).1,rfl⟩
  · exact ⟨leAt xs 24 4,leAt xs 24 5,rfl,wrap64 _ (key 24 4 (by decide)).2,(key 24 4 (by decide)).1,rfl⟩
  · exact ⟨leAt xs 24 5,leAt xs 24 6,rfl,wrap64 _ (key 24 5 (by decide)).2,(key 24 5 (by decide)).1,rfl⟩
  · exact ⟨leAt xs 24 6,leAt xs 24 7,rfl,wrap64 _ (key 24 6 (by decide)).2,(key 24 6 (by decide)).1,rfl⟩
  · exact ⟨leAt xs 24 7,leAt xs 24 8,rfl,wrap64 _ (key 24 7 (by decide)).2,(key 24 7 (by decide)).1,rfl⟩
theorem QcG (w : World) (a b c:Obj):(((w.alloc a).alloc b).alloc c).heap[w.heap.size]? = some a:=by
  rw [Below.heap_alloc _ _ _ (by simp; omega),Below.heap_alloc _ _ _ (by simp)]
  exact heap_alloc_new w a
theorem set3 (w : World) (a b:Obj) (cs:Array Value) (t:TypeId) (n i:Nat) (v:Value) :
    ((((w.alloc a).alloc b).alloc (.cells cs t)).drewN n).setCell ⟨w.heap.size+1+1,i,none⟩ v=(((w.alloc a).alloc b).alloc (.cells (cs.setIfInBounds i v) t)).drewN n:=by
  have h:∀ W:World,(W.drewN n).setCell ⟨w.heap.size+1+1,i,none⟩ v=(W.setCell ⟨w.heap.size+1+1,i,none⟩ v).drewN n:=fun _=>rfl
  rw [h]
  congr 1
  go_simp
theorem le32 (xs : List Int):val (leAt xs 0 8) (leAt xs 8 8) (leAt xs 16 8) (leAt xs 24 8)=leAt xs 0 32:=by
  simp only [leAt,val,Int.reducePow,Nat.reduceAdd]
  omega
theorem Qfo (xs : List Int) (hb:Qaj xs) (o:Nat):isW (leAt xs o 8):=by
  have h:=QbV xs hb o 8
  have e:(256:Int)^8=18446744073709551616:=by decide
  rw [e] at h
  exact h
theorem Qq3 (a b c d n:Int) (ha:isW a) (hb:isW b) (hc:isW c) (hd:isW d) (e:val a b c d=n) :
    val a b c (d%9223372036854775808)=n%57896044618658097711785492504343953926634992332820282019728792003956564819968∧val a b c (d%9223372036854775808)<2*p:=by
  subst e
  unfold isW at *
  unfold val p
  omega
set_option maxRecDepth 100000 in
theorem Qno (xs : List Int) (hl:xs.length=32) (hb:Qaj xs) (w:World):Calls Tryd.prog 44 #[.agg (ints .u8 xs)] w (Ret w (num (leAt xs 0 32%57896044618658097711785492504343953926634992332820282019728792003956564819968%p))):=by
  go_enter Tryd.func44,Tryd.ntmps44
  have hi:(Tryd.prog.info? 23).map (·.size)=some (ints .u8 xs).size:=by rw [infoKey,Qad,hl]
  go_wp2_with first
    | (with_reducible show wpList _ _ _ ((⟨_,.load 23 _,_,_,_,_⟩:Oper)::_) _ _
       refine wpList_load_row rfl 23 _ rfl w.heap.size rfl 23 (ints .u8 xs) (0,0) _ (QcG _ _ _ _) Tryd.underlying23 rfl hi ?_)
  go_loopw [7] (fun i wr=>∃ k:Nat,k≤32∧i=.int .i64 k∧∃ b nq,b.size=4∧wr=(((w.alloc (.cells (ints .u8 xs) 23)).alloc (.cells b 49)).alloc (.cells (ints .u64 (pw xs k)) 47)).drewN nq) (fun i _=>32-(intOf i).toNat)
  case atStart=>exact ⟨0,by omega,rfl,_,0,rfl,rfl⟩
  case round =>
    obtain ⟨k,hk,rfl,b,nq,hbs,rfl⟩:=hrel
    by_cases hlt:k<32
    · obtain ⟨s,s',hg,hw,ho,hs⟩:=Qm8 xs hb k hlt
      have hx:(ints .u8 xs)[k]? = some (.int .u8 (nth xs k)):=Qar _ _ _ (by omega)
      have q0:(0:Int)≤(k:Int)/8:=by omega
      have q1:(k:Int)/8<4:=by omega
      have q2:IntKind.i64.wrap ((k:Int)/8)=(k:Int)/8:=IntWalk.i64_in _ (by omega)
      have qm:(k:Int).tmod 8=(k:Int)%8:=Int.tmod_eq_emod_of_nonneg (by omega)
      have q3:IntKind.i64.wrap ((k:Int)%8)=(k:Int)%8:=IntWalk.i64_in _ (by omega)
      have q4:IntKind.i64.wrap (8*((k:Int)%8))=8*((k:Int)%8):=IntWalk.i64_in _ (by omega)
      have q5:((k:Int)/8).toNat=k/8:=by omega
      have q6:(8*((k:Int)%8)).toNat=8*(k%8):=by omega
      have q7:(0:Int)≤8*((k:Int)%8):=by omega
      have q8:8*((k:Int)%8)<64:=by omega
      have q9:=wrap64 (nth xs k) (by have:=hb.nth k; unfold isW; omega)
      have hX:∀ W,(Instr.index 23 (.agg (ints .u8 xs)) (.int .i64 (k:Int))).run Tryd.prog W=.ok (.int .u8 (nth xs k)) W:=fun W=>run_index_ints W Tryd.underlying23 Tryd.underlying5 kj xs hl k hlt
      go_wp2
      have hc:∀ W,Drew ((((w.alloc (.cells (ints .u8 xs) 23)).alloc (.cells b 49)).alloc (.cells (ints .u64 (pw xs k)) 47)).drewN nq).drew W→W.cell? ⟨w.heap.size+1+1,k/8,none⟩=some (.int .u64 s):=fun W hR=>by
        obtain ⟨m,rfl⟩:=hR
        have h2:=Qb2 w (.cells (ints .u8 xs) 23) (.cells b 49) (.cells (ints .u64 (pw xs k)) 47)
        exact (cell_of_row _ (w.heap.size+2) (k/8) _ _ _ h2).trans hg
      have HC:=Lib.hid hc
      clear hc
      refine Qa1 Drew 12 34 [⟨none,[(4,none)]⟩,⟨none,[(11,some 0)]⟩,⟨none,[(3,none),(12,some 1)]⟩,⟨none,[(13,some 2)]⟩,⟨none,[(5,none)]⟩,⟨none,[(15,some 4)]⟩,⟨none,[(4,none)]⟩,⟨none,[(17,some 6)]⟩,⟨none,[(18,some 7)]⟩,⟨none,[(16,some 5),(19,some 8)]⟩,⟨none,[(14,some 3),(20,some 9)]⟩,⟨none,[(3,none),(12,some 1)]⟩] kj kj rfl Drew.refl Drew.trans (fun F r0 hr hF=>?_)
      have f3:r0 3=.pointer (some ⟨w.heap.size+1+1,0,none⟩):=by rw [hr]; rfl
      have f4:r0 4=.int .i64 k:=by rw [hr]; rfl
      have f5:r0 5=.int .u8 (nth xs k):=by rw [hr]; rfl
      clear hr
      simp only [List.take_succ_cons,List.take_zero]
      repeat
        (try simp only [List.cons_append,List.nil_append]
         apply Qao
         (intro ρ W hR hh
          have hcell:=HC.out W hR
          simp only [QbX,List.getD_cons_zero,List.getD_cons_succ,f3,f4,f5] at hh
          simp only [guarded,QaM]
          go_simp
          first
            | exact ⟨Drew.refl _,rfl⟩
            | exact Drew.refl _))
      try simp only [List.cons_append,List.nil_append]
      refine hF.out fun W hR=>?_
      obtain ⟨m,rfl⟩:=hR
      simp only [List.take_succ_cons,List.take_zero,List.drop_succ_cons,List.drop_zero,fin,forall_eq,Act.put,List.setIfInBounds_toArray,List.set_cons_zero,List.set_cons_succ]
      go_wp2
      refine ⟨⟨k+1,by omega,by go_num,b,nq+1+m,hbs,?_⟩,by simp [intOf]; omega⟩
      rw [set3,hs]
    · obtain rfl:k=32:=by omega
      have l0:=Qfo xs hb 0
      have l1:=Qfo xs hb 8
      have l2:=Qfo xs hb 16
      have l3:=Qfo xs hb 24
      have hp:ints .u64 (pw xs 32)=#[.int .u64 (leAt xs 0 8),.int .u64 (leAt xs 8 8),.int .u64 (leAt xs 16 8),.int .u64 (leAt xs 24 8)]:=rfl
      have ho:=Qio _ l3
      have C:∀ w,Calls Tryd.prog 81 #[.int .u64 (leAt xs 0 8),.int .u64 (leAt xs 8 8),.int .u64 (leAt xs 16 8),.int .u64 (leAt xs 24 8%9223372036854775808)] w (Ret w (num (leAt xs 0 32%57896044618658097711785492504343953926634992332820282019728792003956564819968%p))):=fun w=>by
        have lo:=Qq3 _ _ _ _ _ l0 l1 l2 l3 (le32 xs)
        have:=reduced _ _ _ _ l0 l1 l2 (by unfold isW; omega) lo.2 w
        rw [lo.1] at this
        exact this
      generalize leAt xs 0 32%57896044618658097711785492504343953926634992332820282019728792003956564819968%p=r at *
      rw [hp]
      generalize leAt xs 0 8=z0 at *
      generalize leAt xs 8 8=z1 at *
      generalize leAt xs 16 8=z2 at *
      generalize leAt xs 24 8=z3 at *
      have HC:=Lib.hid C
      clear C hp l0 l1 l2 l3
      go_wp2_with first
        | (go_at_call 81
           (with_reducible refine (HC.out _).mono ?_)
           rintro e w' ⟨rfl,hw⟩)
        | (with_reducible show wpList _ _ _ ((⟨_,.store 49 _ _,_,_,_,_⟩:Oper)::_) _ _
           refine wpList_store_row rfl 49 _ _ rfl (w.heap.size+1) (numA r) rfl rfl 49 b ((hw.block _ (by simp)).trans (QbW _ _ _ _)) QaU hbs (Qb9 _) ?_)
      exact bodyPost_ret (Qdv (t:=2) rfl rfl (setRow_heap _ _ _ _ _ _ ((hw.block _ (by simp)).trans (QbW _ _ _ _)))) rfl ⟨rfl,below_setRow (Ext.trans (Ext.trans (ext3 _ _ _ _) (QlF _ _)) hw) (by omega) _⟩
end Go.Proofs.YtdoadngmgmdlbaaDoor.Field
end
section
namespace Go.Proofs.YtdoadngmgmdlbaaDoor.Field
open Go Go.RowKit
open Rely
def pvf (g : Nat→Int):Nat→Int
  | 0=>0
  | k+1=>pvf g k+g k*65536^k
def limb (n : Int) (i:Nat):Int:=n/65536^i%65536
def cr (g : Nat→Int) (k:Nat):Int:=pvf g k/65536^k
theorem Qfd (k : Nat):(0:Int)<65536^k:=Int.pow_pos (by decide)
theorem QaS (n : Int) (i:Nat):0≤limb n i∧limb n i<65536:=by unfold limb; omega
theorem Qfa (g : Nat→Int):cr g 0=0:=by simp [cr,pvf]
theorem QnT (g : Nat→Int) (k:Nat):pvf g (k+1)/65536^k=g k+cr g k:=by
  unfold cr
  rw [pvf,Int.add_mul_ediv_right _ _ (Int.ne_of_gt (Qfd k)),Int.add_comm]
theorem Qfb (g : Nat→Int) (k:Nat):(g k+cr g k)/65536=cr g (k+1):=by
  rw [←QnT]
  unfold cr
  rw [Int.pow_succ,Int.ediv_ediv_of_nonneg (Int.le_of_lt (Qfd k))]
theorem Qpy (g : Nat→Int) (k:Nat):(g k+cr g k)%65536=limb (pvf g (k+1)) k:=by
  rw [←QnT]
  rfl
theorem Qh2 (g : Nat→Int) (k:Nat):∀ m,∃ r,pvf g (k+m)=pvf g k+r*65536^k
  | 0=>⟨0,by simp⟩
  | m+1=>by
    obtain ⟨r,h⟩:=Qh2 g k m
    refine ⟨r+g (k+m)*65536^m,?_⟩
    rw [←Nat.add_assoc,pvf,h,Int.pow_add,Int.add_mul,Int.mul_assoc,Int.mul_comm (65536^m),Int.add_assoc]
theorem Qi8 (g : Nat→Int) (k n:Nat) (h:k<n):limb (pvf g (k+1)) k=limb (pvf g n) k:=by
  obtain ⟨m,rfl⟩:∃ m,n=k+1+m:=⟨n-(k+1),by omega⟩
  obtain ⟨r,hr⟩:=Qh2 g (k+1) m
  unfold limb
  rw [hr,Int.pow_succ,←Int.mul_assoc,Int.mul_right_comm,Int.add_mul_ediv_right _ _ (Int.ne_of_gt (Qfd k)),Int.add_mul_emod_self_right]
theorem Qdt (g : Nat→Int) (k n:Nat) (h:k<n):(g k+cr g k)%65536=limb (pvf g n) k:=by
  rw [Qpy,Qi8 g k n h]
theorem QfB (g : Nat→Int) (n:Nat) (hg:∀ i,i<n→0≤g i∧g i<65536):∀ k,k≤n→0≤pvf g k∧pvf g k<65536^k
  | 0,_=>by simp [pvf]
  | k+1,h=>by
    have ih:=QfB g n hg k (by omega)
    have h0:=hg k (by omega)
    have hp:=Qfd k
    have h1:0≤g k*65536^k:=Int.mul_nonneg h0.1 (Int.le_of_lt hp)
    have h2:g k*65536^k≤65535*65536^k:=Int.mul_le_mul_of_nonneg_right (by omega) (Int.le_of_lt hp)
    rw [pvf,Int.pow_succ]
    omega
theorem Qhf (g : Nat→Int) (M:Int) (n:Nat) (hM:65536≤M) (hg:∀ i,i<n→0≤g i∧g i≤M):∀ k,k≤n→0≤cr g k∧cr g k≤M
  | 0,_=>by rw [Qfa]; omega
  | k+1,h=>by
    have ih:=Qhf g M n hM hg k (by omega)
    have h0:=hg k (by omega)
    rw [←Qfb]
    omega
theorem Qcy (n : Int):∀ k,pvf (limb n) k=n%65536^k
  | 0=>by simp [pvf,Int.emod_one]
  | k+1=>by
    rw [pvf,Qcy n k]
    unfold limb
    rw [Int.pow_succ,Int.emod_def n,Int.emod_def n,Int.emod_def (n/_),←Int.ediv_ediv_of_nonneg (Int.le_of_lt (Qfd k))]
    generalize n/65536^k=q
    generalize (65536:Int)^k=b
    generalize q/65536=r
    grind
theorem Qpe (g : Nat→Int) (n:Nat) (hg:∀ i,i<n→0≤g i∧g i<65536) (k:Nat) (hk:k<n):limb (pvf g n) k=g k:=by
  rw [←Qdt g k n hk]
  have h1:=hg k hk
  have:cr g k=0:=by
    have:=QfB g n hg k (by omega)
    unfold cr
    exact Int.ediv_eq_zero_of_lt this.1 this.2
  rw [this]
  omega
theorem Qcz {g h:Nat→Int} {n:Nat} (e:∀ i,i<n→g i=h i):∀ k,k≤n→pvf g k=pvf h k
  | 0,_=>rfl
  | k+1,hk=>by rw [pvf,pvf,Qcz e k (by omega),e k (by omega)]
theorem QgJ (g h:Nat→Int):∀ k,pvf (fun i=>g i+h i) k=pvf g k+pvf h k
  | 0=>rfl
  | k+1=>by simp only [pvf]; rw [QgJ g h k,Int.add_mul]; omega
theorem Qjb (c : Int) (g:Nat→Int):∀ k,pvf (fun i=>c*g i) k=c*pvf g k
  | 0=>by simp [pvf]
  | k+1=>by simp only [pvf]; rw [Qjb c g k,Int.mul_add,Int.mul_assoc]
theorem Qh1 (g : Nat→Int) (k:Nat):∀ m,pvf g (k+m)=pvf g k+pvf (fun i=>g (i+k)) m*65536^k
  | 0=>by simp [pvf]
  | m+1=>by
    rw [←Nat.add_assoc,pvf,Qh1 g k m,pvf,Int.add_mul,Nat.add_comm m k,Int.pow_add]
    rw [Int.mul_assoc (g (k+m)),Int.mul_comm (65536^m),Int.add_assoc]
theorem Qkf (n : Int) (i k:Nat):limb n (i+k)=limb (n/65536^k) i:=by
  unfold limb
  rw [Int.ediv_ediv_of_nonneg (Int.le_of_lt (Qfd k)),←Int.pow_add,Nat.add_comm k i]
def mix (N : Nat) (f g:Nat→Int) (k:Nat):List Int:=(List.range N).map fun i=>if i<k then f i else g i
theorem mix_len (N : Nat) (f g:Nat→Int) (k:Nat):(mix N f g k).length=N:=by simp [mix]
theorem QbJ (N : Nat) (f g:Nat→Int) (k i:Nat) (hi:i<N):nth (mix N f g k) i=if i<k then f i else g i:=by simp [nth,mix,hi]
theorem Qdy (N : Nat) (f g:Nat→Int) (k:Nat) (h:N≤k):mix N f g k=(List.range N).map f:=by
  unfold mix
  refine List.map_congr_left fun i hi=>?_
  have:=List.mem_range.1 hi
  rw [if_pos (by omega)]
theorem QdW (N : Nat) (f g:Nat→Int):mix N f g 0=(List.range N).map g:=by
  unfold mix
  exact List.map_congr_left fun i hi=>by simp
theorem mix_set (N : Nat) (f g:Nat→Int) (k:Nat) (hk:k<N):(mix N f g k).set k (f k)=mix N f g (k+1):=by
  apply List.ext_getElem
  · simp [mix]
  · intro i h1 h2
    simp only [mix,List.getElem_set,List.getElem_map,List.getElem_range]
    by_cases hi:k=i
    · subst hi; simp
    · simp only [hi,if_false]
      by_cases hl:i<k
      · rw [if_pos hl,if_pos (by omega)]
      · rw [if_neg hl,if_neg (by omega)]
theorem Qhz (xs : List Int) (N:Nat) (h:xs.length=N):(List.range N).map (nth xs)=xs:=by
  apply List.ext_getElem
  · simp [h]
  · intro i h1 h2
    simp [nth,h2]
def lims (n : Int):List Int:=(List.range 16).map (limb n)
theorem Qa0 (n : Int):(lims n).length=16:=by simp [lims]
theorem QbZ (n : Int) (i:Nat) (h:i<16):nth (lims n) i=limb n i:=by simp [nth,lims,h]
theorem Qjo {a b:Int} (ha:0≤a∧a<65536^16) (hb:0≤b∧b<65536^16) (h:lims a=lims b):a=b:=by
  have e:∀ i,i<16→limb a i=limb b i:=fun i hi=>by rw [←QbZ a i hi,h,QbZ b i hi]
  have:=Qcz e 16 (qR _)
  rw [Qcy,Qcy,Int.emod_eq_of_lt ha.1 ha.2,Int.emod_eq_of_lt hb.1 hb.2] at this
  exact this
def Qc7 (n : Int) (i:Nat):Int:=if i<16 then limb n i+38*limb n (i+16) else 0
def QbK (n : Int):Int:=n%65536^16+38*(n/65536^16)
theorem QgI : ∀ k,pvf (fun _=>0) k=0
  | 0=>rfl
  | k+1=>by rw [pvf,QgI k]; simp
theorem Qnq (n : Int) (h:0≤n∧n<65536^32):pvf (Qc7 n) 32=QbK n:=by
  have e0:pvf (Qc7 n) (16+16)=pvf (Qc7 n) 16+pvf (fun i=>Qc7 n (i+16)) 16*65536^16:=Qh1 _ 16 16
  have e1:pvf (fun i=>Qc7 n (i+16)) 16=0:=by
    rw [Qcz (h:=fun _=>0) (n:=16) (fun i hi=>by unfold Qc7; rw [if_neg (by omega)]) 16 (qR _)]
    exact QgI 16
  have e2:pvf (Qc7 n) 16=pvf (fun i=>limb n i+38*limb n (i+16)) 16 :=
    Qcz (fun i hi=>by unfold Qc7; rw [if_pos hi]) 16 (qR _)
  have e3:pvf (fun i=>limb n (i+16)) 16=n/65536^16:=by
    rw [Qcz (h:=limb (n/65536^16)) (n:=16) (fun i hi=>Qkf n i 16) 16 (qR _),Qcy]
    exact Int.emod_eq_of_lt (Int.ediv_nonneg h.1 (Int.le_of_lt (Qfd 16))) (Int.ediv_lt_of_lt_mul (Qfd 16) (by rw [←Int.pow_add]; exact h.2))
  have e4:=QgJ (limb n) (fun i=>38*limb n (i+16)) 16
  have e5:=Qjb 38 (fun i=>limb n (i+16)) 16
  rw [show (32:Nat)=16+16 from rfl,e0,e1,e2,e4,e5,e3,Qcy]
  unfold QbK
  omega
theorem QhS (n : Int) (i:Nat):0≤Qc7 n i∧Qc7 n i≤2555865:=by
  unfold Qc7
  have:=QaS n i
  have:=QaS n (i+16)
  split <;> omega
theorem four (n : Int) (h:0≤n∧n<65536^32):0≤QbK n∧QbK n<65536^32∧0≤QbK (QbK n)∧QbK (QbK n)<65536^32∧0≤QbK (QbK (QbK n))∧QbK (QbK (QbK n))<65536^32 ∧
    0≤QbK (QbK (QbK (QbK n)))∧QbK (QbK (QbK (QbK n)))<65536^16∧QbK (QbK (QbK (QbK n)))%57896044618658097711785492504343953926634992332820282019728792003956564819949=n%57896044618658097711785492504343953926634992332820282019728792003956564819949:=by
  have e1:(65536:Int)^16=115792089237316195423570985008687907853269984665640564039457584007913129639936:=by decide
  have e2:(65536:Int)^32=13407807929942597099574024998205846127479365820592393377723561443721764030073546976801874298166903427690031858186486050853753882811946569946433649006084096:=by decide
  have step:∀ m:Int,QbK m=m-115792089237316195423570985008687907853269984665640564039457584007913129639898*(m/115792089237316195423570985008687907853269984665640564039457584007913129639936):=fun m=>by
    unfold QbK; rw [e1]; omega
  rw [e1,e2] at *
  generalize hq1:n/115792089237316195423570985008687907853269984665640564039457584007913129639936=q1
  have s1:=step n
  rw [hq1] at s1
  have b1:0≤QbK n∧QbK n<4515891480255331621519268415338828406277529401959981997538845776308612055957504:=by omega
  generalize QbK n=m1 at *
  have s2:=step m1
  generalize hq2:m1/115792089237316195423570985008687907853269984665640564039457584007913129639936=q2 at *
  have b2:0≤QbK m1∧QbK m1<115792089237316195423570985008687907853269984665640564039457584007913129639936+38*38:=by omega
  generalize QbK m1=m2 at *
  have s3:=step m2
  generalize hq3:m2/115792089237316195423570985008687907853269984665640564039457584007913129639936=q3 at *
  have b3:0≤QbK m2∧QbK m2<115792089237316195423570985008687907853269984665640564039457584007913129639936:=by omega
  generalize QbK m2=m3 at *
  have s4:=step m3
  generalize hq4:m3/115792089237316195423570985008687907853269984665640564039457584007913129639936=q4 at *
  have b4:0≤QbK m3∧QbK m3<115792089237316195423570985008687907853269984665640564039457584007913129639936:=by omega
  generalize QbK m3=m4 at *
  refine ⟨by omega,by omega,by omega,by omega,by omega,by omega,by omega,by omega,?_⟩
  have:m4=n-2*57896044618658097711785492504343953926634992332820282019728792003956564819949*(q1+q2+q3+q4):=by omega
  omega
end Go.Proofs.YtdoadngmgmdlbaaDoor.Field
end
section
namespace Go.Proofs.YtdoadngmgmdlbaaDoor.Prime
def IsP (n : Nat):Prop:=1<n∧∀ d,d ∣ n→d=1∨d=n
def prods : List Nat→Nat
  | []=>1
  | q::l=>q*prods l
theorem onto : ∀ (n:Nat) (f:Nat→Nat),(∀ i,i<n→f i<n)→(∀ i j,i<n→j<n→f i=f j→i=j)→∀ y,y<n→∃ i,i<n∧f i=y
  | 0,_,_,_,y,hy=>absurd hy (Nat.not_lt_zero y)
  | n+1,f,hf,hi,y,hy=>by
    have key:∀ i,i<n→f i=n→f n<n:=fun i h e=>by
      have h1:=hf n (by omega)
      rcases Nat.lt_or_ge (f n) n with h2 | h2
      · exact h2
      · have:=hi i n (by omega) (by omega) (by omega)
        omega
    have IH:=onto n (fun i=>if f i=n then f n else f i) (fun i h=>by
        show (if f i=n then f n else f i)<n
        by_cases e:f i=n
        · rw [if_pos e]; exact key i h e
        · rw [if_neg e]; have:=hf i (by omega); omega)
      (fun i j h1 h2 h=>by
        have h':(if f i=n then f n else f i)=(if f j=n then f n else f j):=h
        by_cases e1:f i=n <;> by_cases e2:f j=n
        · exact hi i j (by omega) (by omega) (by omega)
        · rw [if_pos e1,if_neg e2] at h'
          have:=hi n j (by omega) (by omega) h'
          omega
        · rw [if_neg e1,if_pos e2] at h'
          have:=hi i n (by omega) (by omega) h'
          omega
        · rw [if_neg e1,if_neg e2] at h'
          exact hi i j (by omega) (by omega) h')
    have back:∀ z,z<n→∃ i,i<n+1∧f i=z:=fun z hz=>by
      obtain ⟨i,h1,h2⟩:=IH z hz
      have h2':(if f i=n then f n else f i)=z:=h2
      by_cases e:f i=n
      · rw [if_pos e] at h2'; exact ⟨n,by omega,h2'⟩
      · rw [if_neg e] at h2'; exact ⟨i,by omega,h2'⟩
    rcases Nat.lt_or_ge y n with h | h
    · exact back y h
    · have e:y=n:=by omega
      subst e
      by_cases e2:f y=y
      · exact ⟨y,by omega,e2⟩
      · have h3:f y<y:=by have:=hf y (by omega); omega
        obtain ⟨i,h1,h2⟩:=IH (f y) h3
        have h2':(if f i=y then f y else f i)=f y:=h2
        by_cases e3:f i=y
        · exact ⟨i,by omega,e3⟩
        · rw [if_neg e3] at h2'
          have:=hi i y (by omega) (by omega) h2'
          omega
theorem Qen (N a b k:Nat) (h:a%N=1%N):(a^k*b)%N=b%N:=by
  rw [Nat.mul_mod,Nat.pow_mod,h,←Nat.pow_mod,Nat.one_pow,←Nat.mul_mod,Nat.one_mul]
theorem Qo5 (N g:Nat):∀ m n,g^m%N=1%N→g^n%N=1%N→g^(Nat.gcd m n)%N=1%N:=by
  intro m n
  induction m,n using Nat.gcd.induction with
  | H0 n=>intro _ h; simpa using h
  | H1 m n hm ih =>
    intro h1 h2
    rw [Nat.gcd_rec]
    refine ih ?_ h1
    have e:g^n=(g^m)^(n/m)*g^(n%m):=by
      rw [←Nat.pow_mul,←Nat.pow_add,Nat.div_add_mod]
    rw [e,Qen N _ _ _ h1] at h2
    exact h2
theorem QhY : ∀ (qs:List Nat) (e:Nat),(∀ q∈qs,IsP q)→e ∣ prods qs→1<e→∃ q∈qs,q ∣ e
  | [],e,_,h,h1=>by
    have:=Nat.le_of_dvd (by decide) h
    simp only [prods] at this
    omega
  | q::l,e,hq,h,h1=>by
    have hp:=hq q List.mem_cons_self
    rcases hp.2 (Nat.gcd q e) (Nat.gcd_dvd_left q e) with hg | hg
    · have h2:e ∣ prods l:=by
        have hc:Nat.Coprime e q:=by rw [Nat.Coprime,Nat.gcd_comm]; exact hg
        exact hc.dvd_of_dvd_mul_left h
      obtain ⟨r,h3,h4⟩:=QhY l e (fun r hr=>hq r (List.mem_cons_of_mem _ hr)) h2 h1
      exact ⟨r,List.mem_cons_of_mem _ h3,h4⟩
    · exact ⟨q,List.mem_cons_self,by rw [←hg]; exact Nat.gcd_dvd_right q e⟩
theorem order (N g:Nat) (qs:List Nat) (h1:1<N) (hq:∀ q∈qs,IsP q) (hprod:prods qs=N-1) (hne:∀ q∈qs,g^((N-1)/q)%N≠1)
    (hone:g^(N-1)%N=1) (m:Nat) (hm:0<m) (hlt:m<N-1) (h:g^m%N=1):False:=by
  have e1:1%N=1:=Nat.mod_eq_of_lt h1
  have hd:=Qo5 N g m (N-1) (by rw [e1]; exact h) (by rw [e1]; exact hone)
  have d1:Nat.gcd m (N-1) ∣ N-1:=Nat.gcd_dvd_right _ _
  have d2:Nat.gcd m (N-1)≤m:=Nat.le_of_dvd hm (Nat.gcd_dvd_left _ _)
  generalize hD:Nat.gcd m (N-1)=d at *
  obtain ⟨e,he⟩:=d1
  have epos:1<e:=by
    rcases (by omega:e=0∨e=1∨1<e) with h0 | h0 | h0
    · subst h0; simp at he; omega
    · subst h0; simp at he; omega
    · exact h0
  obtain ⟨q,hq1,hq2⟩:=QhY qs e hq (by rw [hprod,he]; exact Nat.dvd_mul_left e d) epos
  obtain ⟨r,hr⟩:=hq2
  have qpos:0<q:=by have:=(hq q hq1).1; omega
  refine hne q hq1 ?_
  have e3:(N-1)/q=d*r:=by
    rw [he,hr,show d*(q*r)=q*(d*r) by rw [←Nat.mul_assoc,Nat.mul_comm d q,Nat.mul_assoc]]
    exact Nat.mul_div_cancel_left _ qpos
  have:=Qen N (g^d) 1 r hd
  rw [Nat.mul_one,←Nat.pow_mul,e1] at this
  rw [e3]
  exact this
theorem Qko (N g:Nat) (qs:List Nat) (h1:1<N) (hq:∀ q∈qs,IsP q) (hprod:prods qs=N-1) (hne:∀ q∈qs,g^((N-1)/q)%N≠1)
    (hone:g^(N-1)%N=1) (a:Nat) (ha:0<a) (hlt:a<N):∃ k,g^k%N=a:=by
  have e1:1%N=1:=Nat.mod_eq_of_lt h1
  have hone':g^(N-1)%N=1%N:=by rw [e1]; exact hone
  have up:∀ b,(g^(N-1)*b)%N=b%N:=fun b=>by
    have:=Qen N (g^(N-1)) b 1 hone'
    rwa [Nat.pow_one] at this
  have hpos:∀ i,i<N-1→0<g^i%N:=fun i hi=>by
    rcases Nat.eq_zero_or_pos (g^i%N) with h | h
    · have:g^(N-1)%N=0:=by
        rw [show N-1=i+(N-1-i) by omega,Nat.pow_add,Nat.mul_mod,h,Nat.zero_mul,Nat.zero_mod]
      omega
    · exact h
  have inj:∀ i j,i<j→j<N-1→g^i%N=g^j%N→False:=fun i j hij hj h=>by
    refine order N g qs h1 hq hprod hne hone (j-i) (by omega) (by omega) ?_
    have e2:(g^(N-1-i)*g^i)%N=(g^(N-1-i)*g^j)%N:=by rw [Nat.mul_mod,h,←Nat.mul_mod]
    rw [←Nat.pow_add,←Nat.pow_add,show N-1-i+i=N-1 by omega,show N-1-i+j=N-1+(j-i) by omega,Nat.pow_add,up,hone] at e2
    exact e2.symm
  obtain ⟨i,h2,h3⟩:=onto (N-1) (fun i=>g^i%N-1) (fun i hi=>by
      show g^i%N-1<N-1
      have:=hpos i hi
      have:=Nat.mod_lt (g^i) (show 0<N by omega)
      omega)
    (fun i j hi hj h=>by
      have h':g^i%N-1=g^j%N-1:=h
      have:=hpos i hi
      have:=hpos j hj
      rcases Nat.lt_trichotomy i j with h4 | h4 | h4
      · exact (inj i j h4 hj (by omega)).elim
      · exact h4
      · exact (inj j i h4 hi (by omega)).elim) (a-1) (by omega)
  have h3':g^i%N-1=a-1:=h3
  have:=hpos i h2
  exact ⟨i,by omega⟩
theorem QhV (N g:Nat) (h1:1<N) (hone:g^(N-1)%N=1) (hall:∀ a,0<a→a<N→∃ k,g^k%N=a) (a:Nat) (ha:a%N≠0):a^(N-1)%N=1:=by
  obtain ⟨k,hk⟩:=hall (a%N) (by omega) (Nat.mod_lt _ (by omega))
  have e1:1%N=1:=Nat.mod_eq_of_lt h1
  rw [Nat.pow_mod,←hk,←Nat.pow_mod,←Nat.pow_mul,Nat.mul_comm,Nat.pow_mul,Nat.pow_mod,hone,Nat.one_pow,e1]
theorem Qm9 (N g:Nat) (h1:1<N) (hone:g^(N-1)%N=1) (hall:∀ a,0<a→a<N→∃ k,g^k%N=a):IsP N:=by
  refine ⟨h1,fun d hd=>?_⟩
  have hle:=Nat.le_of_dvd (by omega) hd
  rcases Nat.eq_or_lt_of_le hle with h | h
  · exact .inr h
  · left
    have d0:0<d:=Nat.pos_of_dvd_of_pos hd (by omega)
    have hf:=QhV N g h1 hone hall d (by rw [Nat.mod_eq_of_lt h]; omega)
    by_cases hN:N-1=0
    · omega
    · have h2:d ∣ d^(N-1):=by
        rw [show N-1=(N-2)+1 by omega,Nat.pow_succ]
        exact Nat.dvd_mul_left d _
      have h3:d ∣ d^(N-1)%N:=(Nat.dvd_mod_iff hd).2 h2
      rw [hf] at h3
      exact Nat.dvd_one.1 h3
def pm (N : Nat):Nat→Nat→Nat→Nat
  | 0,_,_=>1%N
  | f+1,g,e=>let h:=pm N f (g*g%N) (e/2); if e%2=1 then g*h%N else h
theorem pm_eq (N : Nat):∀ f g e,e<2^f→pm N f g e=g^e%N
  | 0,g,e,h=>by
    have:e=0:=by simpa using h
    subst this
    simp [pm]
  | f+1,g,e,h=>by
    have hm:g*g%N%N=g*g%N:=Nat.mod_mod _ _
    have ih:=pm_eq N f (g*g%N) (e/2) (by rw [Nat.pow_succ] at h; omega)
    have e2:(g*g%N)^(e/2)%N=(g*g)^(e/2)%N:=by rw [Nat.pow_mod,hm,←Nat.pow_mod]
    have e3:(g*g)^(e/2)=g^(2*(e/2)):=by rw [Nat.pow_mul,Nat.pow_succ,Nat.pow_one]
    simp only [pm]
    rw [ih,e2,e3]
    by_cases ho:e%2=1
    · rw [if_pos ho]
      have:g^e=g*g^(2*(e/2)):=by
        rw [Nat.mul_comm,←Nat.pow_succ]
        congr 1
        omega
      rw [this,Nat.mul_mod,Nat.mod_mod,←Nat.mul_mod]
    · rw [if_neg ho]
      congr 2
      omega
def QmW (q : Nat):Nat→Bool
  | 0=>true
  | k+1=>(decide (k+2=q) || q%(k+2) != 0)&&QmW q k
theorem QeS (q : Nat):∀ k,QmW q k=true→∀ d,2≤d→d<k+2→d ∣ q→d=q
  | 0,_,d,h1,h2,_=>by omega
  | k+1,h,d,h1,h2,h3=>by
    simp only [QmW,Bool.and_eq_true,Bool.or_eq_true,decide_eq_true_eq,bne_iff_ne,ne_eq] at h
    rcases Nat.lt_or_ge d (k+2) with h4 | h4
    · exact QeS q k h.2 d h1 h4 h3
    · have:d=k+2:=by omega
      subst this
      rcases h.1 with h5 | h5
      · exact h5
      · exact absurd (Nat.mod_eq_zero_of_dvd h3) h5
theorem QaP (q k:Nat) (h:(decide (1<q)&&decide (q<(k+2)*(k+2))&&QmW q k)=true):IsP q:=by
  simp only [Bool.and_eq_true,decide_eq_true_eq] at h
  obtain ⟨⟨h1,h2⟩,h3⟩:=h
  refine ⟨h1,fun d hd=>?_⟩
  obtain ⟨e,he⟩:=hd
  have dpos:0<d:=by
    rcases Nat.eq_zero_or_pos d with h | h; · subst h; simp at he; omega
    · exact h
  have epos:0<e:=by
    rcases Nat.eq_zero_or_pos e with h | h; · subst h; simp at he; omega
    · exact h
  rcases (by omega:d=1∨2≤d) with h4 | h4
  · exact .inl h4
  · rcases (by omega:e=1∨2≤e) with h5 | h5
    · subst h5; right; omega
    · rcases Nat.lt_or_ge d (k+2) with h6 | h6
      · right; exact QeS q k h3 d h4 h6 ⟨e,he⟩
      · rcases Nat.lt_or_ge e (k+2) with h7 | h7
        · have:=QeS q k h3 e h5 h7 ⟨d,by rw [he,Nat.mul_comm]⟩
          left
          rw [this] at he
          have:q*1=q*d:=by rw [Nat.mul_one,Nat.mul_comm]; exact he
          exact (Nat.eq_of_mul_eq_mul_left (by omega) this).symm
        · have:=Nat.mul_le_mul h6 h7
          omega
def QnX (N g:Nat) (qs:List Nat):Bool:=decide (1<N)&&decide (N<2^256)&&decide (prods qs=N-1)&&(pm N 256 g (N-1)==1)&&qs.all fun q=>pm N 256 g ((N-1)/q) != 1
theorem cert (N g:Nat) (qs:List Nat) (hq:∀ q∈qs,IsP q) (h:QnX N g qs=true):IsP N∧(∀ a,a%N≠0→a^(N-1)%N=1)∧∀ a,0<a→a<N→∃ k,g^k%N=a:=by
  simp only [QnX,Bool.and_eq_true,decide_eq_true_eq,beq_iff_eq,List.all_eq_true,bne_iff_ne,ne_eq] at h
  obtain ⟨⟨⟨⟨h1,h2⟩,h3⟩,h4⟩,h5⟩:=h
  rw [pm_eq N 256 g (N-1) (by omega)] at h4
  have hne:∀ q∈qs,g^((N-1)/q)%N≠1:=fun q hm=>by
    have:=h5 q hm
    rwa [pm_eq N 256 g _ (by have:=Nat.div_le_self (N-1) q; omega)] at this
  have hall:=Qko N g qs h1 hq h3 hne h4
  exact ⟨Qm9 N g h1 h4 hall,QhV N g h1 h4 hall,hall⟩
theorem p2 : IsP 2:=QaP 2 0 (by decide +kernel)
theorem p3 : IsP 3:=QaP 3 0 (by decide +kernel)
theorem p5 : IsP 5:=QaP 5 1 (by decide +kernel)
theorem p7 : IsP 7:=QaP 7 1 (by decide +kernel)
theorem p13 : IsP 13:=QaP 13 2 (by decide +kernel)
theorem p19 : IsP 19:=QaP 19 3 (by decide +kernel)
theorem p31 : IsP 31:=QaP 31 4 (by decide +kernel)
theorem p47 : IsP 47:=QaP 47 5 (by decide +kernel)
theorem p103 : IsP 103:=QaP 103 9 (by decide +kernel)
theorem p107 : IsP 107:=QaP 107 9 (by decide +kernel)
theorem p127 : IsP 127:=QaP 127 10 (by decide +kernel)
theorem p223 : IsP 223:=QaP 223 13 (by decide +kernel)
theorem p353 : IsP 353:=QaP 353 17 (by decide +kernel)
theorem p991 : IsP 991:=QaP 991 30 (by decide +kernel)
theorem Qrj : IsP 2437:=QaP 2437 48 (by decide +kernel)
theorem Qri : IsP 4153:=QaP 4153 63 (by decide +kernel)
theorem Qqq : IsP 57467:=QaP 57467 238 (by decide +kernel)
theorem Qqp : IsP 65147:=QaP 65147 254 (by decide +kernel)
theorem Qqo : IsP 75707:=QaP 75707 274 (by decide +kernel)
theorem QoL : IsP 132049:=QaP 132049 362 (by decide +kernel)
theorem QoK : IsP 430751:=QaP 430751 655 (by decide +kernel)
theorem QoJ : IsP 569003:=QaP 569003 753 (by decide +kernel)
theorem QmI : IsP 1923133:=QaP 1923133 1385 (by decide +kernel)
theorem QmH : IsP 8574133:=(cert 8574133 2 [2,2,3,7,103,991] (by
  intro q hq
  simp only [List.mem_cons,List.not_mem_nil,or_false] at hq
  rcases hq with rfl | rfl | rfl | rfl | rfl | rfl
  · exact p2
  · exact p2
  · exact p3
  · exact p7
  · exact p103
  · exact p991
) (by decide +kernel)).1
theorem Qi2 : IsP 2773320623:=(cert 2773320623 5 [2,2437,569003] (by
  intro q hq
  simp only [List.mem_cons,List.not_mem_nil,or_false] at hq
  rcases hq with rfl | rfl | rfl
  · exact p2
  · exact Qrj
  · exact QoJ
) (by decide +kernel)).1
theorem QhA : IsP 72106336199:=(cert 72106336199 7 [2,13,2773320623] (by
  intro q hq
  simp only [List.mem_cons,List.not_mem_nil,or_false] at hq
  rcases hq with rfl | rfl | rfl
  · exact p2
  · exact p13
  · exact Qi2
) (by decide +kernel)).1
theorem QeR : IsP 1919519569386763:=(cert 1919519569386763 2 [2,3,7,19,47,47,127,8574133] (by
  intro q hq
  simp only [List.mem_cons,List.not_mem_nil,or_false] at hq
  rcases hq with rfl | rfl | rfl | rfl | rfl | rfl | rfl | rfl
  · exact p2
  · exact p3
  · exact p7
  · exact p19
  · exact p47
  · exact p47
  · exact p127
  · exact QmH
) (by decide +kernel)).1
theorem Qck : IsP 75445702479781427272750846543864801:=(cert 75445702479781427272750846543864801 7 [2,2,2,2,2,3,3,5,5,75707,72106336199,1919519569386763] (by
  intro q hq
  simp only [List.mem_cons,List.not_mem_nil,or_false] at hq
  rcases hq with rfl | rfl | rfl | rfl | rfl | rfl | rfl | rfl | rfl | rfl | rfl | rfl
  · exact p2
  · exact p2
  · exact p2
  · exact p2
  · exact p2
  · exact p3
  · exact p3
  · exact p5
  · exact p5
  · exact Qqo
  · exact QhA
  · exact QeR
) (by decide +kernel)).1
theorem QeA : IsP 31757755568855353:=(cert 31757755568855353 10 [2,2,2,3,31,107,223,4153,430751] (by
  intro q hq
  simp only [List.mem_cons,List.not_mem_nil,or_false] at hq
  rcases hq with rfl | rfl | rfl | rfl | rfl | rfl | rfl | rfl | rfl
  · exact p2
  · exact p2
  · exact p2
  · exact p3
  · exact p31
  · exact p107
  · exact p223
  · exact Qri
  · exact QoK
) (by decide +kernel)).1
theorem Qbi : IsP 74058212732561358302231226437062788676166966415465897661863160754340907:=(cert 74058212732561358302231226437062788676166966415465897661863160754340907 2 [2,3,353,57467,132049,1923133,31757755568855353,75445702479781427272750846543864801] (by
  intro q hq
  simp only [List.mem_cons,List.not_mem_nil,or_false] at hq
  rcases hq with rfl | rfl | rfl | rfl | rfl | rfl | rfl | rfl
  · exact p2
  · exact p3
  · exact p353
  · exact Qqq
  · exact QoL
  · exact QmI
  · exact QeA
  · exact Qck
) (by decide +kernel)).1
theorem p25519 : IsP 57896044618658097711785492504343953926634992332820282019728792003956564819949∧(∀ a,a%57896044618658097711785492504343953926634992332820282019728792003956564819949≠0→a^(57896044618658097711785492504343953926634992332820282019728792003956564819949-1)%57896044618658097711785492504343953926634992332820282019728792003956564819949=1)∧∀ a,0<a→a<57896044618658097711785492504343953926634992332820282019728792003956564819949→∃ k,2^k%57896044618658097711785492504343953926634992332820282019728792003956564819949=a:=cert 57896044618658097711785492504343953926634992332820282019728792003956564819949 2 [2,2,3,65147,74058212732561358302231226437062788676166966415465897661863160754340907] (by
  intro q hq
  simp only [List.mem_cons,List.not_mem_nil,or_false] at hq
  rcases hq with rfl | rfl | rfl | rfl | rfl
  · exact p2
  · exact p2
  · exact p3
  · exact Qqp
  · exact Qbi
) (by decide +kernel)
end Go.Proofs.YtdoadngmgmdlbaaDoor.Prime
end
end
