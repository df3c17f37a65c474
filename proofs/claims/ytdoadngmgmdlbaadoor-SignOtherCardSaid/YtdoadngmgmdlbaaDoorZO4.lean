/- Texts of this claim, joined (O4). -/
import Derived.Test.YtdoadngmgmdlbaaDoorZO3

set_option linter.unusedVariables false
set_option linter.unusedSimpArgs false
set_option maxHeartbeats 4000000
section
namespace Go.Proofs.YtdoadngmgmdlbaaDoor.Field
open Go Go.RowKit Go.Shelf
open Rely
attribute [local go_sem] Oper.semAt_some
def bitsS (bs : List Int):List Bool:=(List.range (8*bs.length)).map fun j=>bitB bs (8*bs.length-1-j)
theorem QfX (bs : List Int):(bitsS bs).length=8*bs.length:=by simp [bitsS]
theorem Qgz (bs : List Int) (j:Nat) (hj:j<8*bs.length):(bitsS bs).take (8*bs.length-j)=(bitsS bs).take (8*bs.length-(j+1))++[bitB bs j]:=by
  generalize hN:8*bs.length=N at hj
  have e:N-j=(N-(j+1))+1:=by omega
  rw [e,List.take_add_one]
  congr 1
  have h:N-(j+1)<N:=by omega
  simp only [bitsS,hN,List.getElem?_map,List.getElem?_range h,Option.map_some,Option.toList_some]
  rw [show N-1-(N-(j+1))=j by omega]
def Qfm (B g:Nat) (W W':World):Prop:=W'.heap[g]? = W.heap[g]?∧∀ k,k<B→W'.heap[k]? = W.heap[k]?
theorem Qfm.refl (B g:Nat) (W:World):Qfm B g W W:=⟨rfl,fun _ _=>rfl⟩
theorem Qfm.trans {B g:Nat} {a b c:World} (h:Qfm B g a b) (k:Qfm B g b c):Qfm B g a c:=⟨k.1.trans h.1,fun i hi=>(k.2 i hi).trans (h.2 i hi)⟩
theorem QjN {B g:Nat} {w:World} (hg:g<w.heap.size) (hB:B≤w.heap.size) (W:World) (l:Nat) (o o':Obj) (hl:w.heap.size≤l) (h:W.heap[l]? = some o) (_:o.isCells=false) (_:o.isWalk=false):Qfm B g W (W.putObj l o') :=
  ⟨World.putObj_heap_other (fun e=>by omega),fun k hk=>World.putObj_heap_other (fun e=>by omega)⟩
theorem QlP {B : Nat} {W W':World} {b off:Nat} (h:∀ k,k<B→W'.heap[k]? = W.heap[k]?) (hb:b<B):W'.cell? ⟨b,off,none⟩=W.cell? ⟨b,off,none⟩:=by
  unfold World.cell?
  simp only [h b hb]
set_option maxHeartbeats 2000000 in
theorem Qih (m : Nat) (hm:1≤m) (B g1:Nat) (A:Option Addr) (n c:Nat) (bs:List Int) (hbl:bs.length=n) (hn:n≤1000) (hb:Qaj bs) (w:World)
    (hg:w.heap[g1]? = some (.cells #[.slice A n c] 27)) (hB:B≤w.heap.size)
    (hc:n=0∨∃ sb so,A=some ⟨sb,so,none⟩∧sb<B∧∀ i,i<n→w.cell? ⟨sb,so+i,none⟩=some (.int .u8 (nth bs i))) :
    SeqStopsK Fence.wide m Tryd.prog 99 #[.pointer (some ⟨g1,0,none⟩)] (fun x:Bool=>#[encB x]) (Qfm B g1) (fun ys=>ys=bitsS bs) (fun pre=>pre <+: bitsS bs) (8*n) w:=fun l J Jx W hW hJ hJx hY h0=>by
  refine callsIn_of_wp Tryd.func99 rfl trivial ?_ rfl
  simp only [Tryd.ntmps99,List.size_toArray,List.length_cons,List.length_nil,Nat.reduceAdd,Nat.reduceSub,Array.replicate_succ,Array.replicate_zero,List.push_toArray,List.append_toArray,List.nil_append,List.cons_append]
  have hgW:W.heap[g1]? = some (.cells #[.slice A n c] 27):=(hW.block g1 (QaB hg)).trans hg
  have hcW:n=0∨∃ sb so,A=some ⟨sb,so,none⟩∧sb<B∧∀ i,i<n→W.cell? ⟨sb,so+i,none⟩=some (.int .u8 (nth bs i)):=by
    refine hc.imp id ?_
    rintro ⟨sb,so,h1,h2,h3⟩
    exact ⟨sb,so,h1,h2,fun i hi=>(hW.cell (by show sb<_; omega)).trans (h3 i hi)⟩
  have hc1:W.cell? ⟨g1,0,none⟩=some (.slice A n c):=Qa9 hgW rfl
  have qa:IntKind.i64.wrap (8*(n:Int))=8*(n:Int):=IntWalk.i64_in _ (by omega)
  have qb:IntKind.i64.wrap (8*(n:Int)-1)=8*(n:Int)-1:=IntWalk.i64_in _ (by omega)
  have HC:=Lib.hid hcW
  have HG:=Lib.hid hgW
  have HL:=Lib.hid hbl
  clear hcW hgW hc hg hbl
  gi_wp2
  gi_loopw [3] (fun i wr=>∃ k:Nat,k≤8*n∧i=.int .i64 ((k:Int)-1)∧J ((bitsS bs).take (8*n-k)) wr∧Qfm B g1 W wr) (fun i _=>(intOf i+1).toNat)
  case atStart=>exact ⟨8*n,by omega,by congr 1 <;> omega,by simpa using h0,Qfm.refl _ _ _⟩
  case round =>
    obtain ⟨k,hkn,rfl,hJs,hS⟩:=hrel
    rcases k with _ | j
    · gi_wp2
      go_end0
      exact ⟨⟨_,rfl⟩,.inl ⟨_,rfl,by rwa [List.take_of_length_le (by rw [QfX,HL.out]; omega)] at hJs⟩⟩
    · have hj:j<8*n:=by omega
      obtain ⟨sb,so,rfl,hsb,hcell⟩:=HC.out.resolve_left (by omega)
      rw [show ((j+1:Nat):Int)-1=(j:Int) by omega]
      have hc2:wr.cell? ⟨g1,0,none⟩=some (.slice (some ⟨sb,so,none⟩) n c):=Qa9 (hS.1.trans HG.out) rfl
      have hcx:wr.cell? ⟨sb,so+j/8,none⟩=some (.int .u8 (nth bs (j/8))):=(QlP hS.2 hsb).trans (hcell (j/8) (by omega))
      have hlen:(bitsS bs).length=8*n:=by rw [QfX,HL.out]
      obtain ⟨fn,tmps,assign,body,hy,hR⟩:=hY _ (bitB bs j) wr hJs (by rw [List.length_take]; omega)
      have hT0:=Qgz bs j (by rw [HL.out]; exact hj)
      rw [HL.out] at hT0
      have hT:=Lib.hid hT0
      have b1:=hb.nth (j/8)
      rw [Qj2,show QcV bs j=nth bs (j/8)/2^(j%8)%2 from rfl] at hy
      clear hT0 hlen hcell
      generalize bitB bs j=bt at *
      generalize nth bs (j/8)=v at *
      have q0:(0:Int)≤(j:Int):=by omega
      have q1:(j:Int)/8<(n:Int):=by omega
      have q2:IntKind.i64.wrap ((j:Int)/8)=(j:Int)/8:=IntWalk.i64_in _ (by omega)
      have qm:(j:Int).tmod 8=(j:Int)%8:=Int.tmod_eq_emod_of_nonneg (by omega)
      have q3:IntKind.i64.wrap ((j:Int)%8)=(j:Int)%8:=IntWalk.i64_in _ (by omega)
      have q4:(0:Int)≤(j:Int)/8:=by omega
      have q5:((j:Int)/8).toNat=j/8:=by omega
      have q6:((j:Int)%8).toNat=j%8:=by omega
      have q7:(0:Int)≤(j:Int)%8:=by omega
      have q8:(j:Int)%8<8:=by omega
      have hp:(1:Int)≤2^(j%8):=by
        have:(0:Int)<2^(j%8):=Int.pow_pos (by decide)
        omega
      have d1:0≤v/2^(j%8):=Int.ediv_nonneg b1.1 (by omega)
      have d2:v/2^(j%8)≤v:=Int.ediv_le_self _ b1.1
      have w1:IntKind.i64.wrap (v/2^(j%8))=v/2^(j%8):=IntWalk.i64_in _ (by omega)
      have w2:=QiK (v/2^(j%8)) (by omega)
      have hadd:(⟨sb,so,none⟩:Addr).add (j/8)=⟨sb,so+j/8,none⟩:=by unfold Addr.add; split <;> simp_all
      gi_wp2
      refine hR.mono ?_
      rintro e W3 (⟨rfl,hJ3,hk3⟩ | ⟨rfl,hJx3⟩)
      · gi_wp2
        go_roundw
        case rel=>exact ⟨j,by omega,rfl,by rw [hT.out]; exact hJ3,Qfm.trans hS hk3⟩
        case measure=>simp [intOf]
      · gi_wp2
        refine bodyPost_ret (results_none rfl _ _ _) rfl ?_
        exact ⟨⟨_,rfl⟩,.inr ⟨_,by rw [←hT.out]; exact List.take_prefix _ _,hJx3⟩⟩
end Go.Proofs.YtdoadngmgmdlbaaDoor.Field
end
section
namespace Go.Proofs.YtdoadngmgmdlbaaDoor.Field
open Go Go.RowKit
open Rely Auto
def ordL : Int:=7237005577332262213973186563042994240857116359379907606001950938285454250989
def isS (n : Int):Prop:=0≤n∧n<ordL
theorem isS_mod (n : Int):isS (n%ordL):=⟨Int.emod_nonneg _ (by decide),Int.emod_lt_of_pos _ (by decide)⟩
theorem isS_self {n : Int} (h:isS n):n%ordL=n:=Int.emod_eq_of_lt h.1 h.2
theorem Qk8 (a : Int) (h:isS a):∃ x0 x1 x2 x3:Int,isW x0∧isW x1∧isW x2∧isW x3∧val x0 x1 x2 x3=a∧num a=words x0 x1 x2 x3:=by
  refine ⟨a%18446744073709551616,a/18446744073709551616%18446744073709551616,a/340282366920938463463374607431768211456%18446744073709551616,a/6277101735386680763835789423207666416102355444464034512896%18446744073709551616,?_,?_,?_,?_,?_,rfl⟩
  all_goals unfold isS ordL at h
  all_goals first | (unfold isW; omega) | (unfold val; omega)
theorem Qi9 (n : Int) (h:0≤n∧n<18446744073709551616):isW n:=h
theorem Qi0 (a b:Int) (ha:isS a) (hb:isS b) (w:World) (tO:TypeId) (hO:w.heap[3]? = some (.cells Qca tO)) :
    Calls Tryd.prog 63 #[num a,num b] w (Ret w (num ((a+b)%ordL))):=by
  obtain ⟨x0,x1,x2,x3,wx0,wx1,wx2,wx3,ex,eX⟩:=Qk8 a ha
  obtain ⟨y0,y1,y2,y3,wy0,wy1,wy2,wy3,ey,eY⟩:=Qk8 b hb
  obtain ⟨v0,c0,wv0,wc0,e0,r0⟩:=Qet x0 y0 0 wx0 wy0 (by decide)
  obtain ⟨v1,c1,wv1,wc1,e1,r1⟩:=Qet x1 y1 c0 wx1 wy1 wc0
  obtain ⟨v2,c2,wv2,wc2,e2,r2⟩:=Qet x2 y2 c1 wx2 wy2 wc1
  obtain ⟨v3,c3,wv3,wc3,e3,r3⟩:=Qet x3 y3 c2 wx3 wy3 wc2
  obtain ⟨u0,d0,wu0,wd0,f0,s0⟩:=Qe2 v0 6346243789798364141 0 wv0 (Qi9 _ (by decide)) (by decide)
  obtain ⟨u1,d1,wu1,wd1,f1,s1⟩:=Qe2 v1 1503914060200516822 d0 wv1 (Qi9 _ (by decide)) wd0
  obtain ⟨u2,d2,wu2,wd2,f2,s2⟩:=Qe2 v2 0 d1 wv2 Qbz wd1
  obtain ⟨u3,d3,wu3,wd3,f3,s3⟩:=Qe2 v3 1152921504606846976 d2 wv3 (Qi9 _ (by decide)) wd2
  have hv:=Qf1 v0 v1 v2 v3 wv0 wv1 wv2 wv3
  have hu:=Qf1 u0 u1 u2 u3 wu0 wu1 wu2 wu3
  have hs:val v0 v1 v2 v3+115792089237316195423570985008687907853269984665640564039457584007913129639936*c3=a+b:=by unfold val at *; omega
  have ht:val u0 u1 u2 u3-115792089237316195423570985008687907853269984665640564039457584007913129639936*d3=val v0 v1 v2 v3-ordL:=by unfold val ordL at *; omega
  have h0:=ha.1; have h1:=ha.2; have h2:=hb.1; have h3:=hb.2
  have hc:c3=0:=by unfold ordL at *; omega
  rw [eX,eY]
  generalize hV:val v0 v1 v2 v3=V at hs ht hv
  generalize hU:val u0 u1 u2 u3=U at ht hu
  rcases (by omega:d3=0∨d3=1) with rfl | rfl
  · have e:num ((a+b)%ordL)=words u0 u1 u2 u3:=by
      rw [Qeo _ _ _ _ wu0 wu1 wu2 wu3,hU]
      congr 1
      rw [show a+b=U+ordL by omega,Int.add_emod_right,Int.emod_eq_of_lt (by omega) (by unfold ordL at *; omega)]
    rw [e]
    exact Qql _ _ _ _ _ _ _ _ _ _ _ _ _ _ _ _ _ _ _ _ _ _ _ r0 s0 r1 s1 r2 s2 r3 s3 w tO hO
  · have e:num ((a+b)%ordL)=words v0 v1 v2 v3:=by
      rw [Qeo _ _ _ _ wv0 wv1 wv2 wv3,hV]
      congr 1
      rw [show a+b=V by omega,Int.emod_eq_of_lt (by omega) (by unfold ordL at *; omega)]
    rw [e]
    exact Qqk _ _ _ _ _ _ _ _ _ _ _ _ _ _ _ _ _ _ _ _ _ _ _ r0 s0 r1 s1 r2 s2 r3 s3 w tO hO
def addb (n : Int) (b:Bool):Int:=if b then ((n+n)%ordL+1)%ordL else (n+n)%ordL
def resB (bs : List Bool):Int:=bs.foldl addb 0
theorem Qhx (bs : List Bool) (b:Bool):resB (bs++[b])=addb (resB bs) b:=by simp [resB]
theorem QnA (n : Int) (b:Bool):isS (addb n b):=by unfold addb; split <;> exact isS_mod _
theorem QiX (bs : List Bool):isS (resB bs):=by
  rcases List.eq_nil_or_concat bs with h | ⟨l,b,h⟩
  · subst h; exact ⟨by decide,by decide⟩
  · subst h; rw [List.concat_eq_append,Qhx]; exact QnA _ _
theorem Qn9 (m : Int) (b:Bool):addb (m%ordL) b=(2*m+if b then 1 else 0)%ordL:=by
  have e:(m%ordL+m%ordL)%ordL=(2*m)%ordL:=by rw [←Int.add_emod,Int.two_mul]
  unfold addb
  rw [e]
  cases b
  · simp
  · simp only [if_true]; rw [Int.emod_add_emod]
theorem QiW (bs : List Bool):resB bs=(bval bs:Int)%ordL:=by
  have key:∀ (bs:List Bool) (n:Nat),bs.foldl addb ((n:Int)%ordL)=((bs.foldl (fun n b=>2*n+if b then 1 else 0) n:Nat):Int)%ordL:=by
    intro bs
    induction bs with
    | nil=>intro n; rfl
    | cons b bs ih =>
      intro n
      rw [List.foldl_cons,List.foldl_cons,Qn9,←ih]
      congr 2
      cases b <;> simp
  exact key bs 0
def wl (n : Int):List Int:=[n%18446744073709551616,n/18446744073709551616%18446744073709551616,n/340282366920938463463374607431768211456%18446744073709551616,n/6277101735386680763835789423207666416102355444464034512896%18446744073709551616]
theorem Qbv (n : Int):(wl n).length=4:=rfl
theorem shrW (v : Int) (n:Nat) (h:n<64):v.fdiv (2^min (n:Int).toNat IntKind.u64.bits)=v/2^n:=by
  rw [show min ((n:Int).toNat) IntKind.u64.bits=n by show min ((n:Int).toNat) 64=n; omega]
  exact Int.fdiv_eq_ediv_of_nonneg _ (Int.le_of_lt (Int.pow_pos (by decide)))
theorem mul8 (k : Nat) (h:k<8):IntKind.i64.wrap (8*(k:Int))=((8*k:Nat):Int):=by
  rw [show (8*(k:Int))=((8*k:Nat):Int) by omega]
  exact IntWalk.i64_in _ (by omega)
theorem Qkt (m : Int) (r:Nat) (hr:r<8):m%18446744073709551616/2^(8*r)%256=m/256^r%256:=by
  rcases (by omega:r=0∨r=1∨r=2∨r=3∨r=4∨r=5∨r=6∨r=7) with rfl | rfl | rfl | rfl | rfl | rfl | rfl | rfl
  all_goals
    simp only [Int.reducePow,Nat.reduceMul]
    omega
theorem QpH (n : Int) (q:Nat) (hq:q<4):nth (wl n) q=n/256^(8*q)%18446744073709551616:=by
  rcases (by omega:q=0∨q=1∨q=2∨q=3) with rfl | rfl | rfl | rfl
  · show n%_=n/1%_
    rw [Int.ediv_one]
  · rfl
  · rfl
  · rfl
theorem Qoa (n : Int) (k:Nat) (hk:k<32):IntKind.u8.wrap (nth (wl n) (k/8)/2^(8*(k%8)))=Qax n k:=by
  rw [QnE,QpH n _ (by omega),Qkt _ _ (by omega),Int.ediv_ediv_of_nonneg (Int.pow_nonneg (by decide)),←Int.pow_add,show 8*(k/8)+k%8=k by omega]
  rfl
theorem Qh7 (n : Int):List.replicate 32 0=part n 0:=by unfold part; simp [List.map_const']
theorem Qh8 (n : Int) (k:Nat) (hk:k<32):(part n k).set k (Qax n k)=part n (k+1):=by
  apply List.ext_getElem
  · simp [part]
  · intro i h1 h2
    simp only [part,List.length_map,List.length_range] at h2
    by_cases hi:i=k
    · subst hi; simp [part]
    · rw [List.getElem_set_ne (by omega)]
      simp only [part,List.getElem_map,List.getElem_range]
      by_cases h:i<k
      · rw [if_pos h,if_pos (by omega)]
      · rw [if_neg h,if_neg (by omega)]
def mulb (e n:Int) (b:Bool):Int:=if b then ((n+n)%ordL+e)%ordL else (n+n)%ordL
def mulB (e : Int) (bs:List Bool):Int:=bs.foldl (mulb e) 0
theorem QhH (e : Int) (bs:List Bool) (b:Bool):mulB e (bs++[b])=mulb e (mulB e bs) b:=by simp [mulB]
theorem QmZ (e n:Int) (b:Bool):isS (mulb e n b):=by unfold mulb; split <;> exact isS_mod _
theorem Qjk (e : Int) (bs:List Bool):isS (mulB e bs):=by
  rcases List.eq_nil_or_concat bs with h | ⟨l,b,h⟩
  · subst h; exact (show isS 0 from ⟨by decide,by decide⟩)
  · subst h; rw [List.concat_eq_append,QhH]; exact QmZ _ _ _
theorem Qnc (e : Int) (bs:List Bool):mulB e bs=(bval bs:Int)*e%ordL:=by
  have key:∀ (bs:List Bool) (n:Nat),bs.foldl (mulb e) ((n:Int)*e%ordL)=((bs.foldl (fun n b=>2*n+if b then 1 else 0) n:Nat):Int)*e%ordL:=by
    intro bs
    induction bs with
    | nil=>intro n; rfl
    | cons b bs ih =>
      intro n
      rw [List.foldl_cons,List.foldl_cons,←ih]
      congr 1
      have d:((n:Int)*e%ordL+(n:Int)*e%ordL)%ordL=(2*n)*e%ordL:=by rw [←Int.add_emod]; congr 1; grind
      unfold mulb
      rw [d]
      cases b
      · simp
      · simp only [if_true]; rw [Int.emod_add_emod]; congr 1; grind
  have h:=key bs 0
  rw [show ((0:Nat):Int)*e%ordL=0 by simp] at h
  exact h
theorem Qn5 (xs : List Int) (hx:xs.length=32):bitsS xs=bitsB xs:=by unfold bitsS bitsB; rw [hx]
def resN (bs : List Int):Int:=resB (bitsS bs)
theorem QiV (bs : List Int):isS (resN bs):=QiX _
theorem numB_bytes {r : Int} (h:isS r):numB (Qaq r)=r.toNat:=by
  unfold numB
  rw [QgW r 32 (qR _),Int.emod_eq_of_lt h.1 (Int.lt_trans h.2 (by decide))]
theorem resN_32 (xs : List Int) (hx:xs.length=32) (hb:Qaj xs):resN xs=(numB xs:Int)%ordL:=by
  unfold resN
  rw [QiW,Qn5 xs hx,QfV xs hb]
theorem mulAdd_val (za zb zc:List Int) (hab:Qaj za) (hb:zb.length=32) (hbb:Qaj zb) (hc:zc.length=32) (hcb:Qaj zc) :
    (mulB (resN zb) (bitsB za)+resN zc)%ordL=((numB za:Int)*numB zb+numB zc)%ordL:=by
  rw [Qnc,resN_32 zb hb hbb,resN_32 zc hc hcb,QfV za hab,←Int.add_emod]
  rw [Int.add_emod,Int.mul_emod,Int.emod_emod,←Int.mul_emod,←Int.add_emod]
end Go.Proofs.YtdoadngmgmdlbaaDoor.Field
end
section
namespace Go.Proofs.YtdoadngmgmdlbaaDoor.Field
open Go Go.RowKit
open Rely Auto
theorem QoR : isS 1:=⟨by decide,by decide⟩
theorem Qfv {W : World} {g:Nat} {xs:List Int} {t:TypeId} (R:W.heap[g]? = some (.cells (ints .u8 xs) t)) {n:Nat} (hx:xs.length=n):∀ i,i<n→W.cell? ⟨g,0+i,none⟩=some (.int .u8 (nth xs i)):=fun i hi=>by
  rw [Nat.zero_add]
  exact Qa9 R (Qar _ _ _ (by omega))
theorem Qia {w W:World} {A:Option Addr} {n:Nat} {bs:List Int} (hc:n=0∨∃ sb so,A=some ⟨sb,so,none⟩∧sb<w.heap.size∧∀ i,i<n→w.cell? ⟨sb,so+i,none⟩=some (.int .u8 (nth bs i))) (e:Ext w W) :
    n=0∨∃ sb so,A=some ⟨sb,so,none⟩∧sb<W.heap.size∧∀ i,i<n→W.cell? ⟨sb,so+i,none⟩=some (.int .u8 (nth bs i)) :=
  hc.imp id fun ⟨sb,so,h1,h2,h3⟩=>⟨sb,so,h1,qL h2 e.size,fun i hi=>(Below.cell e h2).trans (h3 i hi)⟩
theorem QcI (n : Int) (k:Nat):(part n k).length=32:=by simp [part]
theorem Qis (n : Int) (w:World) (tO:TypeId) (hO:w.heap[3]? = some (.cells Qca tO)):Calls Tryd.prog 64 #[num n] w (Ret w (.agg (ints .u8 (Qaq n)))):=by
 refine enter 21 [(0,.agg (ints .u64 (wl (n))))] Tryd.func64 rfl rfl kj rfl <| sgC fun K2 hK2=>Qah (ints .u64 (wl (n))) 97 1 rfl kj kj fun g3 W1 l3 e1 r3_1=>?_
 have x1:=Ext.tr (Rely.Ext.refl w) e1
 have b3:=qT (Rely.Ext.refl w).size l3
 refine Qah (ints .u8 (List.replicate 32 0)) 23 2 rfl kj kj fun g4 W2 l4 e2 r4_2=>?_
 have x2:=Ext.tr x1 e2
 refine sgN hK2 <| sgC fun K5 hK5=>Qah (ints .u8 (List.replicate 32 0)) 23 3 rfl kj kj fun g6 W3 l6 e3 r6_3=>sgN hK5 <| wp_seq_k fun K7 hK7=>sgB kj <| wp_block ?_
 have n_3_4:g3≠g4:=(Qab r3_1 l4)
 have r3_2:=(Qaa r3_1 e2)
 have n_3_6:g3≠g6:=(Qab r3_2 l6)
 have n_4_3:g4≠g3:=(Qas r3_1 l4)
 have n_4_6:g4≠g6:=(Qab r4_2 l6)
 have n_6_3:g6≠g3:=(Qas r3_2 l6)
 have n_6_4:g6≠g4:=(Qas r4_2 l6)
 refine QaN (fun (k:Nat)=>[(5,.int .i64 ((k:Nat):Int)),(1,.pointer (some ⟨g3,0,none⟩)),(2,.pointer (some ⟨g4,0,none⟩)),(3,.pointer (some ⟨g6,0,none⟩))]) (fun (k:Nat) W=>(k≤32)∧W.heap[g3]? = some (.cells (ints .u64 (wl (n))) 97)∧W.heap[g4]? = some (.cells (ints .u8 (List.replicate 32 0)) 23)∧W.heap[g6]? = some (.cells (ints .u8 (part n k)) 23)∧Ext w W) (fun (k:Nat)=>32-k) 0 ⟨kj,kj,kj,kj,trivial⟩ ⟨(by omega),(Qaa r3_2 e3),(Qaa r4_2 e3),(QaJ r6_3 (Qh7 n)),(Ext.tr x2 e3)⟩ fun k X1 V1 hI=>?_
 obtain ⟨hk32,q3_1,q4_1,q6_1,xx1⟩:=hI
 refine sgB kj <| wp_seq_k fun K10 hK10=>QaD (t:=decide (((k:Nat):Int)<32)) kj (fun c11=>?_) (fun c11=>?_)
 ·skip
  have hk:k<32:=by have:=of_decide_eq_true c11; omega
  refine wp_skip <| hK10 _ _ <| wp_seq_k fun K12 hK12=>wp_block <| sgB kj <| Qat <| sg 2 kj <| Qag (.int .i64 (((k/8:Nat):Int))) 10 rfl kj (Qam (u:=.int .i64 (IntKind.i64.wrap (Int.tdiv (((k:Nat):Int)) (8)))) kj (congrArg (Value.int .i64) (QeU k 8 (by omega)))) <| Qag (.pointer (some ⟨g3,k/8,none⟩)) 11 rfl kj (QaR _ _ _ .i64 (k/8) _ 4 46 rfl kj kj kj kj (by omega)) <| Qag (.int .u64 (nth (wl (n)) (k/8))) 12 rfl kj (Qak 46 _ g3 (k/8) 97 _ (.int .u64 (nth (wl (n)) (k/8))) _ q3_1 rfl kj (Qar _ _ _ (Nat.lt_of_lt_of_eq (by omega) (Qbv _).symm)) kj) ?_
  refine sg 1 kj <| Qag (.int .i64 (((k%8:Nat):Int))) 14 rfl kj (Qam (u:=.int .i64 (Int.tmod (((k:Nat):Int)) (8))) kj (congrArg (Value.int .i64) (Qdc k 8))) <| Qag (.int .i64 (((8*(k%8):Nat):Int))) 15 rfl kj (Qam (u:=.int .i64 (IntKind.i64.wrap (8*((k%8:Nat):Int)))) kj (congrArg (Value.int .i64) (mul8 _ (by omega)))) <| Qag (.int .u64 (nth (wl n) (k/8)/2^(8*(k%8)))) 16 rfl kj (Qby .shr _ _ _ _ .u64 .i64 _ _ _ rfl kj kj (Qdo _ _ _ _ _ _ (by omega) (shrW _ _ (by omega)))) <| Qag (.int .u8 (Qax n k)) 17 rfl kj (Qam (u:=.int .u8 (IntKind.u8.wrap (nth (wl n) (k/8)/2^(8*(k%8))))) kj (congrArg (Value.int .u8) (Qoa n k hk))) <| Qag (.pointer (some ⟨g6,k,none⟩)) 18 rfl kj (QaR _ _ _ .i64 (k) _ 32 5 rfl kj kj kj kj hk) <| Qai g6 _ (ints .u8 ((part n k).set k (Qax n k))) 23 q6_1 rfl kj (Qaz 5 _ _ g6 k 23 _ _ q6_1 rfl kj kj kj (Nat.lt_of_lt_of_eq hk (QcI _ _).symm)) fun W5 p5 r6_5=>?_
  have x5:=Puts.ext p5 xx1 (qT x2.size l6)
  refine Qa7 <| hK12 _ _ <| Qat <| Qag (.int .i64 (((k+1:Nat):Int))) 19 rfl kj (Qam (u:=.int .i64 (IntKind.i64.wrap (((k:Nat):Int)+1))) kj (congrArg (Value.int .i64) (Qd3 k (by omega)))) <| sg 1 kj <| Qa7 ?_
  have r4_5:=(Puts.row p5 q4_1 n_4_6)
  repeat (first | with_reducible refine goX1 ?_ | with_reducible refine goX2 ?_ | with_reducible refine goX3 ?_)
  exact QaI (k+1) ⟨kj,kj,kj,kj,trivial⟩ ⟨(by omega),(Puts.row p5 q3_1 n_3_6),r4_5,(QaJ r6_5 (Qh8 n k hk)),x5⟩ (by omega)
 ·skip
  have hk:k=32:=by have:=of_decide_eq_false c11; omega
  subst hk
  refine wp_exit <| hK7 _ _ <| sgC fun K14 hK14=>Qag (.agg (ints .u8 (part n 32))) 20 rfl kj (Qac 23 _ g6 23 _ _ q6_1 rfl kj kj (isz (n:=32) kj ((Qad _ _).trans (QcI _ _)))) <| Qai g4 _ (ints .u8 (part n 32)) 23 q4_1 rfl kj (Qaf 23 _ _ g4 23 _ _ q4_1 rfl kj kj (isz (n:=32) kj ((Qad _ _).trans (QcI _ _))) (eqsz (n:=32) ((Qad _ _).trans zlen) ((Qad _ _).trans (QcI _ _))) (ints_one _ _)) fun W5 p5 r4_5=>?_
  have x5:=Puts.ext p5 xx1 (qT x1.size l4)
  refine sgN hK14 <| wp_ret ?_
  exact (show bodyPost _ _ _ .ret _ _ from ret1 (.agg (ints .u8 (part n 32))) rfl (Qa8 g4 23 _ r4_5 kj kj (isz (n:=32) kj ((Qad _ _).trans (QcI _ _)))) ⟨rfl,x5⟩)
theorem QiI (A : Option Addr) (n c:Nat) (w:World):Calls Tryd.prog 87 #[.slice A n c] w fun e w'=>∃ v,e=.returned v∧Ext w w'∧∃ g1,w.heap.size≤g1∧v=.func (.func 99) #[] #[.pointer (some ⟨g1,0,none⟩)]∧w'.heap[g1]? = some (.cells #[.slice A n c] 27):=by
  have hmf:∀ (fn:Fn) (first cap:Array Value) (w:World),(Instr.makeFunc fn first cap).run Tryd.prog w=.ok (.func fn first cap) w:=fun _ _ _ _=>rfl
  go_enter Tryd.func87,Tryd.ntmps87
  go_wp2_with fail
  exact bodyPost_ret (results_tmp rfl _ _ _) rfl ⟨_,rfl,QaG _ _,w.heap.size,qR _,rfl,heap_alloc_new _ _⟩
set_option maxHeartbeats 8000000 in
theorem Qfr (A : Option Addr) (n c:Nat) (bs:List Int) (hbl:bs.length=n) (hn:n≤1000) (hb:Qaj bs) (w:World) (tO:TypeId) (hO:w.heap[3]? = some (.cells Qca tO))
    (hc:n=0∨∃ sb so,A=some ⟨sb,so,none⟩∧sb<w.heap.size∧∀ i,i<n→w.cell? ⟨sb,so+i,none⟩=some (.int .u8 (nth bs i))) :
    Calls Tryd.prog 62 #[.slice A n c] w (Ret w (num (resN bs))):=by
  refine QlG 17 [(0,.slice A n c)] Tryd.func62 rfl rfl kj rfl <| sgC fun K2 hK2=>Qah (ints .u64 ([0,0,0,0])) 97 2 rfl kj kj fun g3 W1 l3 e1 r3_1=>?_
  have x1:=Ext.tr (Rely.Ext.refl w) e1
  refine sgN hK2 <| sgC fun K4 hK4=>Qah (ints .u64 ([0,0,0,0])) 97 3 rfl kj kj fun g5 W2 l5 e2 r5_2=>?_
  have x2:=Ext.tr x1 e2
  have b5:=qT x1.size l5
  refine sgN hK4 <| wp_seq_k fun K6 hK6=>sgC fun K7 hK7=>sg 1 kj <| QbC (fun v W'=>Ext W2 W'∧∃ g1,W2.heap.size≤g1∧v=.func (.func 99) #[] #[.pointer (some ⟨g1,0,none⟩)]∧W'.heap[g1]? = some (.cells #[.slice A n c] 27)) 87 #[.slice A n c] 6 rfl kj kj (QiI A n c _) fun v W3 h=>?_
  obtain ⟨e3,g1,lk,rfl,r8_3⟩:=h
  have x3:=Ext.tr x2 e3
  refine sgN hK7 <| wp_block ?_
  have n_ry0_ro:g3≠g5:=(Qab r3_1 l5)
  have n_rk_ro:g1≠g5:=(Qas r5_2 lk)
  refine QeQ (gf:=99) (lb:=#[.pointer (some ⟨g1,0,none⟩)]) (enc:=encB) kj (enters_of Tryd.func99 kj rfl) (Qih _ (by omega) w.heap.size g1 A n c bs hbl hn hb W3 r8_3 x3.size (hc.imp id (fun ⟨sb,so,h1,h2,h3⟩=>⟨sb,so,h1,h2,fun i hi=>(Below.cell x3 h2).trans (h3 i hi)⟩))) (fun h k=>Qfm.trans h k) (QjN (QaB r8_3) x3.size) (Below.refl _ _)
      (fun pre W=>(W.heap[g5]? = some (.cells (ints .u64 (wl (resB pre))) 97)∧W.heap[g3]? = some (.cells (ints .u64 ([0,0,0,0])) 97)∧W.heap[g1]? = some (.cells (#[.slice A n c]) 27))∧Ext w W)
      (fun _ _ _=>False) (OwnFrom.and (Own.from (fun s A B row hs hg hr=>⟨Qb8 hs.1 hg hr,Qb8 hs.2.1 hg hr,Qb8 hs.2.2 hg hr⟩) _) (ownFrom_below (qR _) x3.size)) (fun _ _ _ _ _ h _ _=>h) ⟨⟨(QaJ (Qaa r5_2 e3) (show [0,0,0,0]=wl (resB []) from rfl)),(Qaa (Qaa r3_1 e2) e3),r8_3⟩,x3⟩ (fun x=>[(4,encB x),(7,encB x)]) (fun l x W K hK=>?_) (fun l pre bt W hI hp=>?_) (fun D ys W lD hS hI rD=>?_) (fun _ _ _ _ _ _ h _=>h.elim)
  · refine QaV ?_
    refine Qbw (encB x) 4 rfl (Qa4 l 1 _) rfl kj kj <| Qc6 ?_
    exact hK
  · obtain ⟨⟨ro,ry0,rk⟩,xx⟩:=hI
    have hO2:=Qaa hO xx
    have hS0:=Qhx pre bt
    have hL:=QiX pre
    generalize resB pre=s at hS0 hL ro
    cases bt
    · have cs:=fun W tO hO=>Qi0 s s hL hL W tO hO
      have hn0:=isS_mod (s+s)
      obtain ⟨n0,hn⟩:∃ n0,n0=(s+s)%ordL:=⟨_,rfl⟩
      rw [←hn] at cs hn0
      have hS:resB (pre++[false])=n0:=by
        rw [hS0]
        simp only [addb,Bool.false_eq_true,if_false,hn]
      have ls:=b5
      refine wpIn_block <| wpIn_seq_k fun K105 hK105=>QaV <| Qbw (.agg (ints .u64 (wl (s)))) 8 rfl (Qa4 l 1 _) rfl kj (Qac 97 _ g5 97 _ _ ro rfl kj kj (isz (n:=4) kj ((Qad _ _).trans (Qbv _)))) <| Qbw (.agg (ints .u64 (wl (s)))) 9 rfl (Qa4 l 1 _) rfl kj (Qac 97 _ g5 97 _ _ ro rfl kj kj (isz (n:=4) kj ((Qad _ _).trans (Qbv _)))) <| Qd1 (.agg (ints .u64 (wl (n0)))) 63 #[.agg (ints .u64 (wl (s))),.agg (ints .u64 (wl (s)))] 10 rfl (Qa4 l 1 _) rfl kj kj (cs _ tO hO2) fun W1 e1=>?_
      have x1:=Ext.tr xx e1
      have r102_1:=(Qaa ro e1)
      refine QcU g5 _ (ints .u64 (wl (n0))) 97 r102_1 rfl (Qa4 l 1 _) rfl kj (Qaf 97 _ _ g5 97 _ _ r102_1 rfl kj kj (isz (n:=4) kj ((Qad _ _).trans (Qbv _))) (eqsz (n:=4) ((Qad _ _).trans (Qbv _)) ((Qad _ _).trans (Qbv _))) (ints_one _ _)) fun W2 p2 r102_2=>?_
      have x2:=Puts.ext p2 x1 ls
      refine Qc6 <| hK105 _ _ <| wpIn_seq_k fun K106 hK106=>QaV <| Qbw (.int .i64 0) 11 rfl (Qa4 l 1 _) rfl kj kj <| Qbw (.bool false) 12 rfl (Qa4 l 1 _) rfl kj kj <| Qc6 <| hK106 _ _ <| Qd0 kj <| wpIn_skip ?_
      have r104_2:=(Puts.row p2 (Qaa rk e1) n_rk_ro)
      exact ⟨((QbU e1).trans (Qcf p2 r102_1)),⟨r104_2.trans rk.symm,fun k hk=>(x2.block k hk).trans (xx.block k hk).symm⟩,⟨by rw [hS]; exact r102_2,(Puts.row p2 (Qaa ry0 e1) n_ry0_ro),r104_2⟩,x2⟩
    · have cs:=fun W tO hO=>Qi0 s s hL hL W tO hO
      have hn0:=isS_mod (s+s)
      obtain ⟨n0,hn⟩:∃ n0,n0=(s+s)%ordL:=⟨_,rfl⟩
      rw [←hn] at cs hn0
      have ct:=fun W tO hO=>Qi0 n0 (1) hn0 QoR W tO hO
      obtain ⟨m0,hm⟩:∃ m0,m0=(n0+1)%ordL:=⟨_,rfl⟩
      rw [←hm] at ct
      have hS:resB (pre++[true])=m0:=by
        rw [hS0]
        simp only [addb,if_true,hm,hn]
      have ls:=b5
      refine wpIn_block <| wpIn_seq_k fun K105 hK105=>QaV <| Qbw (.agg (ints .u64 (wl (s)))) 8 rfl (Qa4 l 1 _) rfl kj (Qac 97 _ g5 97 _ _ ro rfl kj kj (isz (n:=4) kj ((Qad _ _).trans (Qbv _)))) <| Qbw (.agg (ints .u64 (wl (s)))) 9 rfl (Qa4 l 1 _) rfl kj (Qac 97 _ g5 97 _ _ ro rfl kj kj (isz (n:=4) kj ((Qad _ _).trans (Qbv _)))) <| Qd1 (.agg (ints .u64 (wl (n0)))) 63 #[.agg (ints .u64 (wl (s))),.agg (ints .u64 (wl (s)))] 10 rfl (Qa4 l 1 _) rfl kj kj (cs _ tO hO2) fun W1 e1=>?_
      have x1:=Ext.tr xx e1
      have r102_1:=(Qaa ro e1)
      refine QcU g5 _ (ints .u64 (wl (n0))) 97 r102_1 rfl (Qa4 l 1 _) rfl kj (Qaf 97 _ _ g5 97 _ _ r102_1 rfl kj kj (isz (n:=4) kj ((Qad _ _).trans (Qbv _))) (eqsz (n:=4) ((Qad _ _).trans (Qbv _)) ((Qad _ _).trans (Qbv _))) (ints_one _ _)) fun W2 p2 r102_2=>?_
      have x2:=Puts.ext p2 x1 ls
      refine Qc6 <| hK105 _ _ <| wpIn_seq_k fun K106 hK106=>QaV <| Qbw (.int .i64 1) 11 rfl (Qa4 l 1 _) rfl kj kj <| Qbw (.bool true) 12 rfl (Qa4 l 1 _) rfl kj kj <| Qc6 <| hK106 _ _ <| QdK kj <| QaV ?_
      refine Qbw (.agg (ints .u64 (wl (n0)))) 13 rfl (Qa4 l 1 _) rfl kj (Qac 97 _ g5 97 _ _ r102_2 rfl kj kj (isz (n:=4) kj ((Qad _ _).trans (Qbv _)))) <| Qbw (.agg (ints .u64 (wl (1)))) 14 rfl (Qa4 l 1 _) rfl kj kj <| Qd1 (.agg (ints .u64 (wl (m0)))) 63 #[.agg (ints .u64 (wl (n0))),.agg (ints .u64 (wl (1)))] 15 rfl (Qa4 l 1 _) rfl kj kj (ct _ tO (Puts.row p2 (Qaa hO2 e1) (Nat.ne_of_lt (qL (QaB hO) ls)))) fun W3 e3=>?_
      have x3:=Ext.tr x2 e3
      have r102_3:=(Qaa r102_2 e3)
      refine QcU g5 _ (ints .u64 (wl (m0))) 97 r102_3 rfl (Qa4 l 1 _) rfl kj (Qaf 97 _ _ g5 97 _ _ r102_3 rfl kj kj (isz (n:=4) kj ((Qad _ _).trans (Qbv _))) (eqsz (n:=4) ((Qad _ _).trans (Qbv _)) ((Qad _ _).trans (Qbv _))) (ints_one _ _)) fun W4 p4 r102_4=>?_
      have x4:=Puts.ext p4 x3 ls
      refine Qc6 ?_
      have r104_4:=(Puts.row p4 (Qaa (Puts.row p2 (Qaa rk e1) n_rk_ro) e3) n_rk_ro)
      exact ⟨((((QbU e1).trans (Qcf p2 r102_1)).trans (QbU e3)).trans (Qcf p4 r102_3)),⟨r104_4.trans rk.symm,fun k hk=>(x4.block k hk).trans (xx.block k hk).symm⟩,⟨by rw [hS]; exact r102_4,(Puts.row p4 (Qaa (Puts.row p2 (Qaa ry0 e1) n_ry0_ro) e3) n_ry0_ro),r104_4⟩,x4⟩
  obtain ⟨⟨ro,ry0,rk⟩,xx⟩:=hI
  subst hS
  have bD:w.heap.size≤D:=qT x3.size lD
  refine hK6 _ _ <| sgC fun K10 hK10=>Qag (.agg (ints .u64 (wl (resB (bitsS bs))))) 16 rfl kj (Qac 97 _ g5 97 _ _ ro rfl kj kj (isz (n:=4) kj ((Qad _ _).trans (Qbv _)))) <| Qai g3 _ (ints .u64 (wl (resB (bitsS bs)))) 97 ry0 rfl kj (Qaf 97 _ _ g3 97 _ _ ry0 rfl kj kj (isz (n:=4) kj ((Qad _ _).trans (Qbv _))) (eqsz (n:=4) kj ((Qad _ _).trans (Qbv _))) (ints_one _ _)) fun W5 p5 r3_5=>sgN hK10 <| wp_ret ?_
  have r9_5:=(Puts.row p5 rD (Qi5 ry0 rD))
  exact (show bodyPostM _ _ _ _ _ .ret _ _ from Qow (.agg (ints .u64 (wl (resB (bitsS bs))))) rfl r9_5 (Qa8 g3 97 _ (QgK r3_5 r9_5 _) kj kj (isz (n:=4) kj ((Qad _ _).trans (Qbv _)))) ⟨rfl,QgL (Puts.ext p5 xx (qT (Rely.Ext.refl w).size l3)) bD r9_5 _⟩)
end Go.Proofs.YtdoadngmgmdlbaaDoor.Field
end
section
namespace Go.Proofs.YtdoadngmgmdlbaaDoor.Field
open Go Go.RowKit
open Rely Auto
theorem reduce_ok (A : Option Addr) (n c:Nat) (bs:List Int) (hbl:bs.length=n) (hn:n≤64) (hb:Qaj bs) (w:World) (tO:TypeId) (hO:w.heap[3]? = some (.cells Qca tO))
    (hc:n=0∨∃ sb so,A=some ⟨sb,so,none⟩∧sb<w.heap.size∧∀ i,i<n→w.cell? ⟨sb,so+i,none⟩=some (.int .u8 (nth bs i))) :
    Calls Tryd.prog 61 #[.slice A n c] w (Ret w (.tuple #[.agg (ints .u8 (Qaq (resN bs))),.bool true])):=by
  refine enter 11 [(0,.slice A n c)] Tryd.func61 rfl rfl kj rfl <| sgC fun K2 hK2=>Qah (ints .u8 (List.replicate 32 0)) 23 2 rfl kj kj fun g3 W1 l3 e1 r3_1=>?_
  have x1:=Ext.tr (Rely.Ext.refl w) e1
  refine sg 1 kj <| sgN hK2 <| wp_seq_k fun K4 hK4=>sgC fun K5 hK5=>sg 2 kj <| Qag (.bool false) 6 rfl kj (Qam (u:=.bool (decide (((n:Nat):Int)>64))) kj (congrArg Value.bool (decide_eq_false (by omega)))) <| sgN hK5 <| cond_false kj <| wp_skip <| hK4 _ _ ?_
  refine sgC fun K6 hK6=>sg 1 kj ?_
  have r1_1:=(Qaa hO e1)
  refine Qap (.agg (ints .u64 (wl (resN bs)))) 62 #[.slice A n c] 9 rfl kj kj (Qfr A n c bs hbl (by omega) hb _ tO r1_1 (Qia hc x1)) fun W2 e2=>Qap (.agg (ints .u8 (Qaq (resN bs)))) 64 #[.agg (ints .u64 (wl (resN bs)))] 10 rfl kj kj (Qis _ _ tO (Qaa r1_1 e2)) fun W3 e3=>?_
  have r3_3:=(Qaa (Qaa r3_1 e2) e3)
  refine Qai g3 _ (ints .u8 (Qaq (resN bs))) 23 r3_3 rfl kj (Qaf 23 _ _ g3 23 _ _ r3_3 rfl kj kj (isz (n:=32) kj ((Qad _ _).trans (bytes_len _))) (eqsz (n:=32) ((Qad _ _).trans zlen) ((Qad _ _).trans (bytes_len _))) (ints_one _ _)) fun W4 p4 r3_4=>sg 1 kj <| sgN hK6 <| wp_ret ?_
  exact (show bodyPost _ _ _ .ret _ _ from ret2 (.agg (ints .u8 (Qaq (resN bs)))) (.bool true) rfl (Qa8 g3 23 _ r3_4 kj kj (isz (n:=32) kj ((Qad _ _).trans (bytes_len _)))) (Qbb kj) ⟨rfl,(Puts.ext p4 (Ext.tr (Ext.tr x1 e2) e3) (qT (Rely.Ext.refl w).size l3))⟩)
theorem residueBC (xs : List Int) (hx:xs.length=32) (hb:Qaj xs) (w:World) (tO:TypeId) (hO:w.heap[3]? = some (.cells Qca tO)):Calls Tryd.prog 33 #[.agg (ints .u8 xs)] w (Ret w (.bool (decide (Qaq (resN xs)=xs)))):=by
  refine enter 8 [(0,.agg (ints .u8 (xs)))] Tryd.func33 rfl rfl kj rfl <| sgC fun K2 hK2=>Qah (ints .u8 (xs)) 23 1 rfl kj kj fun g3 W1 l3 e1 r3_1=>?_
  have b3:=qT (Rely.Ext.refl w).size l3
  refine sg 1 kj <| sgN hK2 <| wp_seq_k fun K4 hK4=>QaC 5 [⟨none,[(1,none)]⟩,⟨none,[(3,some 0)]⟩,⟨none,[(4,some 1)]⟩,⟨none,[(1,none)]⟩,⟨none,[(5,some 2),(6,some 3)]⟩] kj kj fun F hF=>Qay (.slice (some ⟨g3,0,none⟩) 32 32) kj kj (fun W=>kj) ?_
  have r1_1:=(Qaa hO e1)
  refine Qan (.agg (ints .u64 (wl (resN xs)))) 62 #[.slice (some ⟨g3,0,none⟩) 32 32] kj kj (fun W=>kj) (fun W hR=>Qfr _ _ _ xs hx (by omega) hb W tO (Qaa (Qaa r1_1 (Qae _)) hR) (.inr ⟨g3,0,rfl,QaB (Qaa (Qaa r3_1 (Qae _)) hR),Qfv (Qaa (Qaa r3_1 (Qae _)) hR) hx⟩)) <| Qan (.agg (ints .u8 (Qaq (resN xs)))) 64 #[.agg (ints .u64 (wl (resN xs)))] kj kj (fun W=>kj) (fun W hR=>Qis _ W tO (Qaa (Qaa r1_1 (Qae _)) hR)) <| Qal (.agg (ints .u8 (xs))) kj kj (fun W hR=>(Qac 23 _ g3 23 _ _ (Qaa (Qaa r3_1 (Qae _)) hR) rfl kj kj (isz (n:=32) kj ((Qad _ _).trans hx)))) <| Qay (.bool (decide (Qaq (resN xs)=xs))) kj kj (fun W=>(Qcq 23 _ _ _ _ _ (.bool (decide (Qaq (resN xs)=xs))) rfl kj kj kj (key_eql (Qaq (resN xs)) (xs) (decide (Qaq (resN xs)=xs)) (bytes_len _) hx rfl _))) <| Qa2 (hF _ kj fun W2 e2=>?_)
  simp only [ups,up,Kn.val,List.take_succ_cons,List.take_zero,List.drop_succ_cons,List.drop_zero,List.nil_append,List.cons_append]
  clear hF
  refine sg 1 kj <| sgN hK4 <| wp_ret ?_
  exact (show bodyPost _ _ _ .ret _ _ from ret1 (.bool (decide (Qaq (resN xs)=xs))) rfl (Qbb kj) ⟨rfl,(Ext.tr (Ext.tr (Rely.Ext.refl w) e1) e2)⟩)
set_option maxHeartbeats 8000000 in
theorem mulAddC (za zb zc:List Int) (ha:za.length=32) (hab:Qaj za) (hb:zb.length=32) (hbb:Qaj zb) (hc:zc.length=32) (hcb:Qaj zc) (w:World) (tO:TypeId) (hO:w.heap[3]? = some (.cells Qca tO)):Calls Tryd.prog 30 #[.agg (ints .u8 za),.agg (ints .u8 zb),.agg (ints .u8 zc)] w (Ret w (.agg (ints .u8 (Qaq ((mulB (resN zb) (bitsB za)+resN zc)%ordL))))):=by
  refine QlG 28 [(0,.agg (ints .u8 (za))),(1,.agg (ints .u8 (zb))),(2,.agg (ints .u8 (zc)))] Tryd.func30 rfl rfl kj rfl <| sgC fun K2 hK2=>Qah (ints .u8 (za)) 23 3 rfl kj kj fun g3 W1 l3 e1 r3_1=>?_
  have x1:=Ext.tr (Rely.Ext.refl w) e1
  have b3:=qT (Rely.Ext.refl w).size l3
  refine Qah (ints .u8 (zb)) 23 4 rfl kj kj fun g4 W2 l4 e2 r4_2=>?_
  have x2:=Ext.tr x1 e2
  have b4:=qT x1.size l4
  refine Qah (ints .u8 (zc)) 23 5 rfl kj kj fun g5 W3 l5 e3 r5_3=>?_
  have x3:=Ext.tr x2 e3
  have b5:=qT x2.size l5
  refine Qah (ints .u8 (List.replicate 32 0)) 23 6 rfl kj kj fun g6 W4 l6 e4 r6_4=>?_
  have x4:=Ext.tr x3 e4
  refine sgN hK2 <| sgC fun K7 hK7=>sg 1 kj ?_
  have r4_4:=(Qaa (Qaa r4_2 e3) e4)
  refine Qap (.agg (ints .u64 (wl (resN zb)))) 62 #[.slice (some ⟨g4,0,none⟩) 32 32] 11 rfl kj kj (Qfr _ _ _ zb hb (by omega) hbb _ tO (Qaa (Qaa (Qaa (Qaa hO e1) e2) e3) e4) (.inr ⟨g4,0,rfl,QaB r4_4,Qfv r4_4 hb⟩)) fun W5 e5=>?_
  have x5:=Ext.tr x4 e5
  refine Qah (ints .u64 ([0,0,0,0])) 97 7 rfl kj kj fun g8 W6 l8 e6 r8_6=>Qai g8 _ (ints .u64 (wl (resN zb))) 97 r8_6 rfl kj (Qaf 97 _ _ g8 97 _ _ r8_6 rfl kj kj (isz (n:=4) kj ((Qad _ _).trans (Qbv _))) (eqsz (n:=4) kj ((Qad _ _).trans (Qbv _))) (ints_one _ _)) fun W7 p7 r8_7=>?_
  have x7:=Puts.ext p7 (Ext.tr x5 e6) (qT x5.size l8)
  refine sgN hK7 <| sgC fun K9 hK9=>Qah (ints .u64 ([0,0,0,0])) 97 8 rfl kj kj fun g10 W8 l10 e8 r10_8=>?_
  have b10:=qT x7.size l10
  refine sgN hK9 <| wp_seq_k fun K11 hK11=>sgC fun K12 hK12=>Qag (.agg (ints .u8 (za))) 12 rfl kj (Qac 23 _ g3 23 _ _ (Qaa (Puts.row p7 (Qaa (Qaa (Qaa (Qaa (Qaa r3_1 e2) e3) e4) e5) e6) (Qab (Qaa (Qaa (Qaa (Qaa r3_1 e2) e3) e4) e5) l8)) e8) rfl kj kj (isz (n:=32) kj ((Qad _ _).trans ha))) <| QbC (fun v W'=>Ext W8 W'∧∃ kb,W8.heap.size≤kb∧v=.func (.func 82) #[] #[.pointer (some ⟨kb,0,none⟩)]∧W'.heap[kb]? = some (.cells (ints .u8 za) 23)) 46 #[.agg (ints .u8 za)] 13 rfl kj kj (Qgy _ _) fun v W9 h=>?_
  obtain ⟨e9,kb,lk,rfl,r13_9⟩:=h
  have x9:=Ext.tr (Ext.tr x7 e8) e9
  refine sgN hK12 <| wp_block ?_
  have r5_5:=(Qaa (Qaa r5_3 e4) e5)
  have r6_5:=(Qaa r6_4 e5)
  have n_ry0_ro:g8≠g10:=(Qab r8_7 l10)
  have n_ry1_ro:g5≠g10:=(Qab (Puts.row p7 (Qaa r5_5 e6) (Qab r5_5 l8)) l10)
  have n_ry2_ro:g6≠g10:=(Qab (Puts.row p7 (Qaa r6_5 e6) (Qab r6_5 l8)) l10)
  have n_rk_ro:kb≠g10:=(Qas r10_8 lk)
  refine QeQ (gf:=82) (lb:=#[.pointer (some ⟨kb,0,none⟩)]) (enc:=encB) kj (enters_of Tryd.func82 kj rfl) (Qfj _ (by omega) kb za ha hab W9 r13_9) (fun h k=>Same.trans' h k) (Qhu (QaB r13_9)) (Below.refl _ _)
      (fun pre W=>(W.heap[g10]? = some (.cells (ints .u64 (wl (mulB (resN zb) pre))) 97)∧W.heap[g8]? = some (.cells (ints .u64 (wl (resN zb))) 97)∧W.heap[g5]? = some (.cells (ints .u8 (zc)) 23)∧W.heap[g6]? = some (.cells (ints .u8 (List.replicate 32 0)) 23)∧W.heap[kb]? = some (.cells (ints .u8 (za)) 23))∧Ext w W)
      (fun _ _ _=>False) (OwnFrom.and (Own.from (fun s A B row hs hg hr=>⟨Qb8 hs.1 hg hr,Qb8 hs.2.1 hg hr,Qb8 hs.2.2.1 hg hr,Qb8 hs.2.2.2.1 hg hr,Qb8 hs.2.2.2.2 hg hr⟩) _) (ownFrom_below (qR _) x9.size)) (fun _ _ _ _ _ h _ _=>h) ⟨⟨(QaJ (Qaa r10_8 e9) (show [0,0,0,0]=wl (mulB (resN zb) []) from rfl)),(Qaa (Qaa r8_7 e8) e9),(Qaa (Qaa (Puts.row p7 (Qaa (Qaa (Qaa r5_3 e4) e5) e6) (Qab r5_5 l8)) e8) e9),(Qaa (Qaa (Puts.row p7 (Qaa (Qaa r6_4 e5) e6) (Qab r6_5 l8)) e8) e9),r13_9⟩,x9⟩ (fun x=>[(9,encB x),(14,encB x)]) (fun l x W K hK=>?_) (fun l pre bt W hI hp=>?_) (fun D ys W lD hS hI rD=>?_) (fun _ _ _ _ _ _ h _=>h.elim)
  · refine QaV ?_
    refine Qbw (encB x) 9 rfl (Qa4 l 1 _) rfl kj kj <| Qc6 ?_
    exact hK
  · obtain ⟨⟨ro,ry0,ry1,ry2,rk⟩,xx⟩:=hI
    have hO2:=Qaa hO xx
    have hS0:=QhH (resN zb) pre bt
    have hL:=Qjk (resN zb) pre
    generalize mulB (resN zb) pre=s at hS0 hL ro
    cases bt
    · have cs:=fun W tO hO=>Qi0 s s hL hL W tO hO
      have hn0:=isS_mod (s+s)
      obtain ⟨n0,hn⟩:∃ n0,n0=(s+s)%ordL:=⟨_,rfl⟩
      rw [←hn] at cs hn0
      have hS:mulB (resN zb) (pre++[false])=n0:=by
        rw [hS0]
        simp only [mulb,Bool.false_eq_true,if_false,hn]
      have ls:=b10
      refine wpIn_block <| wpIn_seq_k fun K107 hK107=>QaV <| Qbw (.agg (ints .u64 (wl (s)))) 15 rfl (Qa4 l 1 _) rfl kj (Qac 97 _ g10 97 _ _ ro rfl kj kj (isz (n:=4) kj ((Qad _ _).trans (Qbv _)))) <| Qbw (.agg (ints .u64 (wl (s)))) 16 rfl (Qa4 l 1 _) rfl kj (Qac 97 _ g10 97 _ _ ro rfl kj kj (isz (n:=4) kj ((Qad _ _).trans (Qbv _)))) <| Qd1 (.agg (ints .u64 (wl (n0)))) 63 #[.agg (ints .u64 (wl (s))),.agg (ints .u64 (wl (s)))] 17 rfl (Qa4 l 1 _) rfl kj kj (cs _ tO hO2) fun W1 e1=>?_
      have x1:=Ext.tr xx e1
      have r102_1:=(Qaa ro e1)
      refine QcU g10 _ (ints .u64 (wl (n0))) 97 r102_1 rfl (Qa4 l 1 _) rfl kj (Qaf 97 _ _ g10 97 _ _ r102_1 rfl kj kj (isz (n:=4) kj ((Qad _ _).trans (Qbv _))) (eqsz (n:=4) ((Qad _ _).trans (Qbv _)) ((Qad _ _).trans (Qbv _))) (ints_one _ _)) fun W2 p2 r102_2=>?_
      have x2:=Puts.ext p2 x1 ls
      refine Qc6 <| hK107 _ _ <| wpIn_seq_k fun K108 hK108=>QaV <| Qbw (.int .i64 0) 18 rfl (Qa4 l 1 _) rfl kj kj <| Qbw (.bool false) 19 rfl (Qa4 l 1 _) rfl kj kj <| Qc6 <| hK108 _ _ <| Qd0 kj <| wpIn_skip ?_
      have r103_2:=(Puts.row p2 (Qaa ry0 e1) n_ry0_ro)
      have r106_2:=(Puts.row p2 (Qaa rk e1) n_rk_ro)
      exact ⟨((QbU e1).trans (Qcf p2 r102_1)),r106_2.trans rk.symm,⟨by rw [hS]; exact r102_2,r103_2,(Puts.row p2 (Qaa ry1 e1) n_ry1_ro),(Puts.row p2 (Qaa ry2 e1) n_ry2_ro),r106_2⟩,x2⟩
    · have cs:=fun W tO hO=>Qi0 s s hL hL W tO hO
      have hn0:=isS_mod (s+s)
      obtain ⟨n0,hn⟩:∃ n0,n0=(s+s)%ordL:=⟨_,rfl⟩
      rw [←hn] at cs hn0
      have ct:=fun W tO hO=>Qi0 n0 (resN zb) hn0 (QiV zb) W tO hO
      obtain ⟨m0,hm⟩:∃ m0,m0=(n0+resN zb)%ordL:=⟨_,rfl⟩
      rw [←hm] at ct
      have hS:mulB (resN zb) (pre++[true])=m0:=by
        rw [hS0]
        simp only [mulb,if_true,hm,hn]
      have ls:=b10
      refine wpIn_block <| wpIn_seq_k fun K107 hK107=>QaV <| Qbw (.agg (ints .u64 (wl (s)))) 15 rfl (Qa4 l 1 _) rfl kj (Qac 97 _ g10 97 _ _ ro rfl kj kj (isz (n:=4) kj ((Qad _ _).trans (Qbv _)))) <| Qbw (.agg (ints .u64 (wl (s)))) 16 rfl (Qa4 l 1 _) rfl kj (Qac 97 _ g10 97 _ _ ro rfl kj kj (isz (n:=4) kj ((Qad _ _).trans (Qbv _)))) <| Qd1 (.agg (ints .u64 (wl (n0)))) 63 #[.agg (ints .u64 (wl (s))),.agg (ints .u64 (wl (s)))] 17 rfl (Qa4 l 1 _) rfl kj kj (cs _ tO hO2) fun W1 e1=>?_
      have x1:=Ext.tr xx e1
      have r102_1:=(Qaa ro e1)
      refine QcU g10 _ (ints .u64 (wl (n0))) 97 r102_1 rfl (Qa4 l 1 _) rfl kj (Qaf 97 _ _ g10 97 _ _ r102_1 rfl kj kj (isz (n:=4) kj ((Qad _ _).trans (Qbv _))) (eqsz (n:=4) ((Qad _ _).trans (Qbv _)) ((Qad _ _).trans (Qbv _))) (ints_one _ _)) fun W2 p2 r102_2=>?_
      have x2:=Puts.ext p2 x1 ls
      refine Qc6 <| hK107 _ _ <| wpIn_seq_k fun K108 hK108=>QaV <| Qbw (.int .i64 1) 18 rfl (Qa4 l 1 _) rfl kj kj <| Qbw (.bool true) 19 rfl (Qa4 l 1 _) rfl kj kj <| Qc6 <| hK108 _ _ <| QdK kj <| QaV ?_
      refine Qbw (.agg (ints .u64 (wl (n0)))) 20 rfl (Qa4 l 1 _) rfl kj (Qac 97 _ g10 97 _ _ r102_2 rfl kj kj (isz (n:=4) kj ((Qad _ _).trans (Qbv _)))) ?_
      have r103_2:=(Puts.row p2 (Qaa ry0 e1) n_ry0_ro)
      refine Qbw (.agg (ints .u64 (wl (resN zb)))) 21 rfl (Qa4 l 1 _) rfl kj (Qac 97 _ g8 97 _ _ r103_2 rfl kj kj (isz (n:=4) kj ((Qad _ _).trans (Qbv _)))) <| Qd1 (.agg (ints .u64 (wl (m0)))) 63 #[.agg (ints .u64 (wl (n0))),.agg (ints .u64 (wl (resN zb)))] 22 rfl (Qa4 l 1 _) rfl kj kj (ct _ tO (Puts.row p2 (Qaa hO2 e1) (Nat.ne_of_lt (qL (QaB hO) ls)))) fun W3 e3=>?_
      have x3:=Ext.tr x2 e3
      have r102_3:=(Qaa r102_2 e3)
      refine QcU g10 _ (ints .u64 (wl (m0))) 97 r102_3 rfl (Qa4 l 1 _) rfl kj (Qaf 97 _ _ g10 97 _ _ r102_3 rfl kj kj (isz (n:=4) kj ((Qad _ _).trans (Qbv _))) (eqsz (n:=4) ((Qad _ _).trans (Qbv _)) ((Qad _ _).trans (Qbv _))) (ints_one _ _)) fun W4 p4 r102_4=>?_
      have x4:=Puts.ext p4 x3 ls
      refine Qc6 ?_
      have r106_4:=(Puts.row p4 (Qaa (Puts.row p2 (Qaa rk e1) n_rk_ro) e3) n_rk_ro)
      exact ⟨((((QbU e1).trans (Qcf p2 r102_1)).trans (QbU e3)).trans (Qcf p4 r102_3)),r106_4.trans rk.symm,⟨by rw [hS]; exact r102_4,(Puts.row p4 (Qaa r103_2 e3) n_ry0_ro),(Puts.row p4 (Qaa (Puts.row p2 (Qaa ry1 e1) n_ry1_ro) e3) n_ry1_ro),(Puts.row p4 (Qaa (Puts.row p2 (Qaa ry2 e1) n_ry2_ro) e3) n_ry2_ro),r106_4⟩,x4⟩
  obtain ⟨⟨ro,ry0,ry1,ry2,rk⟩,xx⟩:=hI
  subst hS
  have bD:w.heap.size≤D:=qT x9.size lD
  refine hK11 _ _ <| wp_seq_k fun K15 hK15=>QaC 5 [⟨none,[(8,none)]⟩,⟨none,[(5,none)]⟩,⟨none,[(24,some 1)]⟩,⟨none,[(23,some 0),(25,some 2)]⟩,⟨none,[(26,some 3)]⟩] kj kj fun F hF=>Qal (.agg (ints .u64 (wl (mulB (resN zb) (bitsB za))))) kj kj (fun W hR=>(Qac 97 _ g10 97 _ _ (Qaa (Qaa ro (Qae _)) hR) rfl kj kj (isz (n:=4) kj ((Qad _ _).trans (Qbv _))))) <| Qay (.slice (some ⟨g5,0,none⟩) 32 32) kj kj (fun W=>kj) <| Qan (.agg (ints .u64 (wl (resN zc)))) 62 #[.slice (some ⟨g5,0,none⟩) 32 32] kj kj (fun W=>kj) (fun W hR=>Qfr _ _ _ zc hc (by omega) hcb W tO (Qaa (Qaa (Qaa hO xx) (Qae _)) hR) (.inr ⟨g5,0,rfl,QaB (Qaa (Qaa ry1 (Qae _)) hR),Qfv (Qaa (Qaa ry1 (Qae _)) hR) hc⟩)) <| Qan (.agg (ints .u64 (wl ((mulB (resN zb) (bitsB za)+resN zc)%ordL)))) 63 #[.agg (ints .u64 (wl (mulB (resN zb) (bitsB za)))),.agg (ints .u64 (wl (resN zc)))] kj kj (fun W=>kj) (fun W hR=>Qi0 _ _ (Qjk _ _) (QiV _) W tO (Qaa (Qaa (Qaa hO xx) (Qae _)) hR)) <| Qan (.agg (ints .u8 (Qaq ((mulB (resN zb) (bitsB za)+resN zc)%ordL)))) 64 #[.agg (ints .u64 (wl ((mulB (resN zb) (bitsB za)+resN zc)%ordL)))] kj kj (fun W=>kj) (fun W hR=>Qis _ W tO (Qaa (Qaa (Qaa hO xx) (Qae _)) hR)) <| Qa2 (hF _ kj fun W11 e11=>?_)
  simp only [ups,up,Kn.val,List.take_succ_cons,List.take_zero,List.drop_succ_cons,List.drop_zero,List.nil_append,List.cons_append]
  clear hF
  have r6_11:=(Qaa ry2 e11)
  refine Qai g6 _ (ints .u8 (Qaq ((mulB (resN zb) (bitsB za)+resN zc)%ordL))) 23 r6_11 rfl kj (Qaf 23 _ _ g6 23 _ _ r6_11 rfl kj kj (isz (n:=32) kj ((Qad _ _).trans (bytes_len _))) (eqsz (n:=32) ((Qad _ _).trans zlen) ((Qad _ _).trans (bytes_len _))) (ints_one _ _)) fun W12 p12 r6_12=>sgN hK15 <| wp_ret ?_
  have r14_12:=(Puts.row p12 (Qaa rD e11) (Qi5 ry2 rD))
  exact (show bodyPostM _ _ _ _ _ .ret _ _ from Qow (.agg (ints .u8 (Qaq ((mulB (resN zb) (bitsB za)+resN zc)%ordL)))) rfl r14_12 (Qa8 g6 23 _ (QgK r6_12 r14_12 _) kj kj (isz (n:=32) kj ((Qad _ _).trans (bytes_len _)))) ⟨rfl,QgL (Puts.ext p12 (Ext.tr xx e11) (qT x3.size l6)) bD r14_12 _⟩)
end Go.Proofs.YtdoadngmgmdlbaaDoor.Field
end
section
namespace Go.Proofs.YtdoadngmgmdlbaaDoor.Sgn
open Go Go.RowKit
open Rely Auto Own Sha5
open Ladder (clamp)
open Field (Qaq resN numA num lims Qca ordL Qb6 QbN QbM Qbc)
theorem bytesOf_len (n : Int):(Qaq n).length=32:=Field.bytes_len n
theorem Qm0 (xs : List Int) (hxs:xs.length=32) (hbxs:Qaj xs) (gh:Nat) (Th:TypeId) (gp n:Nat) (Tp:TypeId) (ps:List (Value×List Int)) (hn:ps.length=n) (hn9:n≤1000) (hone:∀ u∈ps.map Prod.fst,u.oneCell'=true) (tc tq tO:TypeId) (w:World) (hc:w.heap[5]? = some (.cells (ints .u64 Qc8) tc)) (hq:w.heap[4]? = some (.cells (ints .u64 Qbo) tq)) (hO:w.heap[3]? = some (.cells Qca tO)) (hheads:w.heap[gh]? = some (.cells (ints .u8 (xs)) Th)) (hrow:w.heap[gp]? = some (.cells (ps.map Prod.fst).toArray Tp)) (hps:∀ p∈ps,RdK .u8 w.heap.size p.2 p.1 w∧Qaj p.2) (hlen:((ps.map Prod.snd).flatten).length≤100000):Calls Tryd.prog 29 #[.slice (some ⟨gp,0,none⟩) n n,.slice (some ⟨gh,0,none⟩) 1 1] w (Ret w (.agg (ints .u8 (Qaq (resN (dig (xs++(ps.map Prod.snd).flatten))))))):=by
  refine enter 32 [(0,.slice (some ⟨gp,0,none⟩) n n),(1,.slice (some ⟨gh,0,none⟩) 1 1)] Tryd.func29 rfl rfl kj rfl <| sgC fun K6 hK6=>Qah (ints .u8 (List.replicate 32 0)) 23 4 rfl kj kj fun g7 W1 l7 e1 r7_1=>?_
  have x1:=Ext.tr (Rely.Ext.refl w) e1
  refine sgN hK6 <| sgB kj <| wp_seq_k fun K9 hK9=>sgB kj <| wp_block <| wp_loop_rounds 2 ?_
  show Code.wp _ _ (Exit.then (Code.rounds _ _ _ 1) _) _ _
  refine sgB kj <| sgT kj <| wp_seq_k fun K13 hK13=>wp_block <| sgC fun K14 hK14=>sg 1 kj <| Qag (.agg (ints .u8 (xs))) 16 rfl kj (Qac 23 _ gh Th _ _ (Qaa hheads e1) rfl kj kj (isz (n:=32) kj ((Qad _ _).trans hxs))) <| Qah (ints .u8 (List.replicate 32 0)) 23 7 rfl kj kj fun g15 W2 l15 e2 r15_2=>Qai g15 _ (ints .u8 (xs)) 23 r15_2 rfl kj (Qaf 23 _ _ g15 23 _ _ r15_2 rfl kj kj (isz (n:=32) kj ((Qad _ _).trans hxs)) (eqsz (n:=32) ((Qad _ _).trans (qZ (n:=32))) ((Qad _ _).trans hxs)) (ints_one _ _)) fun W3 p3 r15_3=>?_
  have x3:=Puts.ext p3 (Ext.tr x1 e2) (qT x1.size l15)
  refine sgN hK14 <| Qat <| sg 2 kj <| QaW (#[.slice (some ⟨g15,0,none⟩) 32 32]) 27 1 19 rfl kj kj fun g16 W4 l16 e4 r16_4=>?_
  have x4:=Ext.tr x3 e4
  have b16:=qT x3.size l16
  have hu0:OwnR 27 w.heap.size [] (.slice none 0 0) W4:=Qje
  have r15_4:=(Qaa r15_3 e4)
  have r1_1:=(Qaa hc e1)
  refine QcZ (T:=27) (c:=1) (m:=1) (gy:=g16) (ys:=[.slice (some ⟨g15,0,none⟩) 32 32]) w.heap.size 24 (.tmp 17) (.tmp 19) 63 rfl kj (.slice none 0 0) kj rfl (by decide) 20 rfl kj kj kj r16_4 rfl (fun i u h=>by rw [←List.getElem?_toArray] at h; exact h) (fun u h=>by rw [List.mem_singleton.1 h]; rfl) hu0 (show 0≤100000 by decide) (by decide) x4.size fun u5 W5 hu5 q5=>?_
  have x5:=QhQ x4 q5 (fun g hg=>(OwnR.at hu0 hg).1)
  refine sg 1 kj <| Qa7 <| hK13 _ _ <| sgA kj ?_
  show Code.rounds _ _ _ 1 _ _
  show Code.wp _ _ (Exit.then (Code.rounds _ _ _ 0) _) _ _
  refine sgB kj <| wp_seq_k fun K18 hK18=>cond_false kj <| wp_exit <| hK9 _ _ <| sgC fun K19 hK19=>sg 2 kj ?_
  have ho5_20:=hu5
  have r15_5:=(Qb7 q5 r15_4 (QcN hu0 r15_4 (by decide)))
  have r5_1:=(Qaa hrow e1)
  have r5_5:=(Qb7 q5 (Qaa (Puts.row p3 (Qaa r5_1 e2) (Qab r5_1 l15)) e4) (Qc2 hu0 (QaB hrow)))
  refine QcZ (T:=27) (c:=n) (m:=n) (gy:=gp) (ys:=(ps.map Prod.fst)) w.heap.size 24 (.tmp 22) (.tmp 23) 63 rfl kj (.slice none 0 0) kj rfl (by decide) 24 rfl kj kj kj r5_5 ((List.length_map _).trans hn) (fun i u h=>by rw [List.getElem?_toArray]; exact h) hone ho5_20 (show 1≤100000 by decide) (by omega) x5.size fun u6 W6 hu6 q6=>?_
  have x6:=QhQ x5 q6 (fun g hg=>(OwnR.at ho5_20 hg).1)
  have ho6_21:=hu6
  have r15_6:=(Qb7 q6 r15_5 (QcN ho5_20 r15_5 (by decide)))
  have r2_1:=(Qaa hq e1)
  obtain ⟨gl,cl,cul,elv,hgl,rl9,hcl⟩:=OwnR.row (n:=1+n) ho6_21 (by simp only [List.length_append,List.length_map,List.length_cons,List.length_nil,hn]) (by omega)
  have hps9:∀ p∈(([(.slice (some ⟨g15,0,none⟩) 32 32,xs)]:List (Value×List Int))++ps),RdK .u8 W6.heap.size p.2 p.1 W6∧Qaj p.2:=by
    intro p hp
    rcases List.mem_append.1 hp with hp | hp
    · simp only [List.mem_cons,List.not_mem_nil,or_false] at hp
      rcases hp with rfl
      · exact ⟨Qem 0 hxs r15_6 (fun i hi=>by rw [Nat.zero_add]; exact Qar .u8 xs i (by omega)) (QaB r15_6) (by decide) (by decide),hbxs⟩
    · exact ⟨RdK.here ((hps p hp).1.ext x6),(hps p hp).2⟩
  have hfl:(((([(.slice (some ⟨g15,0,none⟩) 32 32,xs)]:List (Value×List Int))++ps).map Prod.snd).flatten)=xs++(ps.map Prod.snd).flatten:=by simp
  have hcs9:∀ i,i<(([(.slice (some ⟨g15,0,none⟩) 32 32,xs)]:List (Value×List Int))++ps).length→cul[i]? = some (pat (([(.slice (some ⟨g15,0,none⟩) 32 32,xs)]:List (Value×List Int))++ps) i).1:=fun i hi=>hcl i _ (by rw [Qh6 hi]; rw [show []++[.slice (some ⟨g15,0,none⟩) 32 32]++(ps.map Prod.fst)=(([(.slice (some ⟨g15,0,none⟩) 32 32,xs)]:List (Value×List Int))++ps).map Prod.fst by simp]; rw [List.getElem?_map,List.getElem?_eq_getElem hi]; rfl)
  have hlg:=Qpb gl (1+n) cl cul 27 (([(.slice (some ⟨g15,0,none⟩) 32 32,xs)]:List (Value×List Int))++ps) (by simp only [List.length_append,List.length_cons,List.length_nil,hn]) (by omega) tc tq W6 (Qb7 q6 (Qb7 q5 (Qaa (Puts.row p3 (Qaa r1_1 e2) (Qab r1_1 l15)) e4) (Qc2 hu0 (QaB hc))) (Qc2 ho5_20 (QaB hc))) (Qb7 q6 (Qb7 q5 (Qaa (Puts.row p3 (Qaa r2_1 e2) (Qab r2_1 l15)) e4) (Qc2 hu0 (QaB hq))) (Qc2 ho5_20 (QaB hq))) rl9 hcs9 hps9 (by rw [hfl]; simp only [List.length_append,hxs]; omega)
  rw [hfl] at hlg
  subst elv
  refine Qap (.agg (ints .u8 (dig (xs++(ps.map Prod.snd).flatten)))) 41 #[.slice (some ⟨gl,0,none⟩) (1+n) cl] 25 rfl kj kj hlg fun W7 e7=>?_
  have x7:=Ext.tr x6 e7
  refine Qah (ints .u8 (List.replicate 64 0)) 30 8 rfl kj kj fun g22 W8 l22 e8 r22_8=>Qai g22 _ (ints .u8 (dig (xs++(ps.map Prod.snd).flatten))) 30 r22_8 rfl kj (Qaf 30 _ _ g22 30 _ _ r22_8 rfl kj kj (isz (n:=64) kj ((Qad _ _).trans (dig_len _))) (eqsz (n:=64) ((Qad _ _).trans (qZ (n:=64))) ((Qad _ _).trans (dig_len _))) (ints_one _ _)) fun W9 p9 r22_9=>sgN hK19 <| sgC fun K23 hK23=>sg 1 kj ?_
  have r3_1:=(Qaa hO e1)
  have r3_7:=(Qaa (Qb7 q6 (Qb7 q5 (Qaa (Puts.row p3 (Qaa r3_1 e2) (Qab r3_1 l15)) e4) (Qc2 hu0 (QaB hO))) (Qc2 ho5_20 (QaB hO))) e7)
  refine Qap (.tuple #[.agg (ints .u8 (Qaq (resN (dig (xs++(ps.map Prod.snd).flatten))))),.bool true]) 61 #[.slice (some ⟨g22,0,none⟩) 64 64] 28 rfl kj kj (Field.reduce_ok (some ⟨g22,0,none⟩) 64 64 (dig (xs++(ps.map Prod.snd).flatten)) (dig_len _) (qR _) (dig_bytes _) _ tO (Puts.row p9 (Qaa r3_7 e8) (Qab r3_7 l22)) (.inr ⟨g22,0,rfl,QaB r22_9,fun i hi=>Qa9 r22_9 (by rw [Nat.zero_add]; exact Qar .u8 _ i (by rw [dig_len]; exact hi))⟩)) fun W10 e10=>?_
  have x10:=Ext.tr (Puts.ext p9 (Ext.tr x7 e8) (qT x7.size l22)) e10
  refine sg 3 kj <| Qah (ints .u8 (List.replicate 32 0)) 23 9 rfl kj kj fun g24 W11 l24 e11 r24_11=>Qai g24 _ (ints .u8 (Qaq (resN (dig (xs++(ps.map Prod.snd).flatten))))) 23 r24_11 rfl kj (Qaf 23 _ _ g24 23 _ _ r24_11 rfl kj kj (isz (n:=32) kj ((Qad _ _).trans (bytesOf_len _))) (eqsz (n:=32) ((Qad _ _).trans (qZ (n:=32))) ((Qad _ _).trans (bytesOf_len _))) (ints_one _ _)) fun W12 p12 r24_12=>sg 1 kj <| sgN hK23 <| sgC fun K25 hK25=>Qag (.agg (ints .u8 (Qaq (resN (dig (xs++(ps.map Prod.snd).flatten)))))) 31 rfl kj (Qac 23 _ g24 23 _ _ r24_12 rfl kj kj (isz (n:=32) kj ((Qad _ _).trans (bytesOf_len _)))) ?_
  have r7_4:=(Qaa (Puts.row p3 (Qaa r7_1 e2) (Qab r7_1 l15)) e4)
  have r7_5:=(Qb7 q5 r7_4 (QcN hu0 r7_4 (by decide)))
  have r7_6:=(Qb7 q6 r7_5 (QcN ho5_20 r7_5 (by decide)))
  have r7_7:=(Qaa r7_6 e7)
  have r7_10:=(Qaa (Puts.row p9 (Qaa r7_7 e8) (Qab r7_7 l22)) e10)
  have r7_12:=(Puts.row p12 (Qaa r7_10 e11) (Qab r7_10 l24))
  refine Qai g7 _ (ints .u8 (Qaq (resN (dig (xs++(ps.map Prod.snd).flatten))))) 23 r7_12 rfl kj (Qaf 23 _ _ g7 23 _ _ r7_12 rfl kj kj (isz (n:=32) kj ((Qad _ _).trans (bytesOf_len _))) (eqsz (n:=32) ((Qad _ _).trans (qZ (n:=32))) ((Qad _ _).trans (bytesOf_len _))) (ints_one _ _)) fun W13 p13 r7_13=>sgN hK25 <| wp_ret ?_
  repeat (first | with_reducible refine goR1 ?_ | with_reducible refine goR2 ?_)
  exact (show bodyPost _ _ _ .ret _ _ from ret1 (.agg (ints .u8 (Qaq (resN (dig (xs++(ps.map Prod.snd).flatten)))))) rfl (Qa8 g7 23 _ r7_13 kj kj (isz (n:=32) kj ((Qad _ _).trans (bytesOf_len _)))) ⟨rfl,(Puts.ext p13 (Puts.ext p12 (Ext.tr x10 e11) (qT x10.size l24)) (qT (Rely.Ext.refl w).size l7))⟩)
theorem Qmz (xs ys:List Int) (hxs:xs.length=32) (hbxs:Qaj xs) (hys:ys.length=32) (hbys:Qaj ys) (gh:Nat) (Th:TypeId) (gp n:Nat) (Tp:TypeId) (ps:List (Value×List Int)) (hn:ps.length=n) (hn9:n≤1000) (hone:∀ u∈ps.map Prod.fst,u.oneCell'=true) (tc tq tO:TypeId) (w:World) (hc:w.heap[5]? = some (.cells (ints .u64 Qc8) tc)) (hq:w.heap[4]? = some (.cells (ints .u64 Qbo) tq)) (hO:w.heap[3]? = some (.cells Qca tO)) (hheads:w.heap[gh]? = some (.cells (cat [ints .u8 (xs),ints .u8 (ys)]) Th)) (hrow:w.heap[gp]? = some (.cells (ps.map Prod.fst).toArray Tp)) (hps:∀ p∈ps,RdK .u8 w.heap.size p.2 p.1 w∧Qaj p.2) (hlen:((ps.map Prod.snd).flatten).length≤100000):Calls Tryd.prog 29 #[.slice (some ⟨gp,0,none⟩) n n,.slice (some ⟨gh,0,none⟩) 2 2] w (Ret w (.agg (ints .u8 (Qaq (resN (dig (xs++ys++(ps.map Prod.snd).flatten))))))):=by
  refine enter 32 [(0,.slice (some ⟨gp,0,none⟩) n n),(1,.slice (some ⟨gh,0,none⟩) 2 2)] Tryd.func29 rfl rfl kj rfl <| sgC fun K6 hK6=>Qah (ints .u8 (List.replicate 32 0)) 23 4 rfl kj kj fun g7 W1 l7 e1 r7_1=>?_
  have x1:=Ext.tr (Rely.Ext.refl w) e1
  refine sgN hK6 <| sgB kj <| wp_seq_k fun K9 hK9=>sgB kj <| wp_block <| wp_loop_rounds 3 ?_
  show Code.wp _ _ (Exit.then (Code.rounds _ _ _ 2) _) _ _
  refine sgB kj <| sgT kj <| wp_seq_k fun K13 hK13=>wp_block <| sgC fun K14 hK14=>sg 1 kj ?_
  have r4_1:=(Qaa hheads e1)
  refine Qag (.agg (ints .u8 (xs))) 16 rfl kj (Qaw 23 _ gh 0 Th _ _ _ r4_1 rfl kj (QaH [] [ints .u8 (xs)] [ints .u8 (ys)] 0 kj) kj (isz (n:=32) kj ((Qad _ _).trans hxs))) <| Qah (ints .u8 (List.replicate 32 0)) 23 7 rfl kj kj fun g15 W2 l15 e2 r15_2=>Qai g15 _ (ints .u8 (xs)) 23 r15_2 rfl kj (Qaf 23 _ _ g15 23 _ _ r15_2 rfl kj kj (isz (n:=32) kj ((Qad _ _).trans hxs)) (eqsz (n:=32) ((Qad _ _).trans (qZ (n:=32))) ((Qad _ _).trans hxs)) (ints_one _ _)) fun W3 p3 r15_3=>?_
  have x3:=Puts.ext p3 (Ext.tr x1 e2) (qT x1.size l15)
  refine sgN hK14 <| Qat <| sg 2 kj <| QaW (#[.slice (some ⟨g15,0,none⟩) 32 32]) 27 1 19 rfl kj kj fun g16 W4 l16 e4 r16_4=>?_
  have x4:=Ext.tr x3 e4
  have b16:=qT x3.size l16
  have hu0:OwnR 27 w.heap.size [] (.slice none 0 0) W4:=Qje
  have r15_4:=(Qaa r15_3 e4)
  have r1_1:=(Qaa hc e1)
  refine QcZ (T:=27) (c:=1) (m:=1) (gy:=g16) (ys:=[.slice (some ⟨g15,0,none⟩) 32 32]) w.heap.size 24 (.tmp 17) (.tmp 19) 63 rfl kj (.slice none 0 0) kj rfl (by decide) 20 rfl kj kj kj r16_4 rfl (fun i u h=>by rw [←List.getElem?_toArray] at h; exact h) (fun u h=>by rw [List.mem_singleton.1 h]; rfl) hu0 (show 0≤100000 by decide) (by decide) x4.size fun u5 W5 hu5 q5=>?_
  have x5:=QhQ x4 q5 (fun g hg=>(OwnR.at hu0 hg).1)
  refine sg 1 kj <| Qa7 <| hK13 _ _ <| sgA kj ?_
  show Code.rounds _ _ _ 2 _ _
  show Code.wp _ _ (Exit.then (Code.rounds _ _ _ 1) _) _ _
  refine sgB kj <| sgT kj <| wp_seq_k fun K19 hK19=>wp_block <| sgC fun K20 hK20=>sg 1 kj <| Qag (.agg (ints .u8 (ys))) 16 rfl kj (Qaw 23 _ gh 32 Th _ _ _ (Qb7 q5 (Qaa (Puts.row p3 (Qaa r4_1 e2) (Qab r4_1 l15)) e4) (Qc2 hu0 (QaB hheads))) rfl kj (QaH [ints .u8 (xs)] [ints .u8 (ys)] [] 32 ((Qad _ _).trans hxs)) kj (isz (n:=32) kj ((Qad _ _).trans hys))) <| Qah (ints .u8 (List.replicate 32 0)) 23 7 rfl kj kj fun g21 W6 l21 e6 r21_6=>Qai g21 _ (ints .u8 (ys)) 23 r21_6 rfl kj (Qaf 23 _ _ g21 23 _ _ r21_6 rfl kj kj (isz (n:=32) kj ((Qad _ _).trans hys)) (eqsz (n:=32) ((Qad _ _).trans (qZ (n:=32))) ((Qad _ _).trans hys)) (ints_one _ _)) fun W7 p7 r21_7=>?_
  have x7:=Puts.ext p7 (Ext.tr x5 e6) (qT x5.size l21)
  refine sgN hK20 <| Qat <| sg 2 kj <| QaW (#[.slice (some ⟨g21,0,none⟩) 32 32]) 27 1 19 rfl kj kj fun g22 W8 l22 e8 r22_8=>?_
  have x8:=Ext.tr x7 e8
  have b22:=qT x7.size l22
  have ho8_23:=((OwnR.puts (hu5.ext e6) p7 r21_6 (by decide)).ext e8)
  have r15_5:=(Qb7 q5 r15_4 (QcN hu0 r15_4 (by decide)))
  have r15_8:=(Qaa (Puts.row p7 (Qaa r15_5 e6) (Qab r15_5 l21)) e8)
  have r21_8:=(Qaa r21_7 e8)
  have r1_5:=(Qb7 q5 (Qaa (Puts.row p3 (Qaa r1_1 e2) (Qab r1_1 l15)) e4) (Qc2 hu0 (QaB hc)))
  refine QcZ (T:=27) (c:=1) (m:=1) (gy:=g22) (ys:=[.slice (some ⟨g21,0,none⟩) 32 32]) w.heap.size 24 (.tmp 17) (.tmp 19) 63 rfl kj (.slice none 0 0) kj rfl (by decide) 20 rfl kj kj kj r22_8 rfl (fun i u h=>by rw [←List.getElem?_toArray] at h; exact h) (fun u h=>by rw [List.mem_singleton.1 h]; rfl) ho8_23 (show 1≤100000 by decide) (by decide) x8.size fun u9 W9 hu9 q9=>?_
  have x9:=QhQ x8 q9 (fun g hg=>(OwnR.at ho8_23 hg).1)
  refine sg 1 kj <| Qa7 <| hK19 _ _ <| sgA kj ?_
  show Code.rounds _ _ _ 1 _ _
  show Code.wp _ _ (Exit.then (Code.rounds _ _ _ 0) _) _ _
  refine sgB kj <| wp_seq_k fun K25 hK25=>cond_false kj <| wp_exit <| hK9 _ _ <| sgC fun K26 hK26=>sg 2 kj ?_
  have ho9_27:=hu9
  have r15_9:=(Qb7 q9 r15_8 (QcN ho8_23 r15_8 (by decide)))
  have r21_9:=(Qb7 q9 r21_8 (QcN ho8_23 r21_8 (by decide)))
  have r5_1:=(Qaa hrow e1)
  have r5_5:=(Qb7 q5 (Qaa (Puts.row p3 (Qaa r5_1 e2) (Qab r5_1 l15)) e4) (Qc2 hu0 (QaB hrow)))
  have r5_9:=(Qb7 q9 (Qaa (Puts.row p7 (Qaa r5_5 e6) (Qab r5_5 l21)) e8) (Qc2 ho8_23 (QaB hrow)))
  refine QcZ (T:=27) (c:=n) (m:=n) (gy:=gp) (ys:=(ps.map Prod.fst)) w.heap.size 24 (.tmp 22) (.tmp 23) 63 rfl kj (.slice none 0 0) kj rfl (by decide) 24 rfl kj kj kj r5_9 ((List.length_map _).trans hn) (fun i u h=>by rw [List.getElem?_toArray]; exact h) hone ho9_27 (show 2≤100000 by decide) (by omega) x9.size fun u10 W10 hu10 q10=>?_
  have x10:=QhQ x9 q10 (fun g hg=>(OwnR.at ho9_27 hg).1)
  have ho10_28:=hu10
  have r15_10:=(Qb7 q10 r15_9 (QcN ho9_27 r15_9 (by decide)))
  have r21_10:=(Qb7 q10 r21_9 (QcN ho9_27 r21_9 (by decide)))
  have r2_1:=(Qaa hq e1)
  have r2_5:=(Qb7 q5 (Qaa (Puts.row p3 (Qaa r2_1 e2) (Qab r2_1 l15)) e4) (Qc2 hu0 (QaB hq)))
  obtain ⟨gl,cl,cul,elv,hgl,rl9,hcl⟩:=OwnR.row (n:=2+n) ho10_28 (by simp only [List.length_append,List.length_map,List.length_cons,List.length_nil,hn]) (by omega)
  have hps9:∀ p∈(([(.slice (some ⟨g15,0,none⟩) 32 32,xs),(.slice (some ⟨g21,0,none⟩) 32 32,ys)]:List (Value×List Int))++ps),RdK .u8 W10.heap.size p.2 p.1 W10∧Qaj p.2:=by
    intro p hp
    rcases List.mem_append.1 hp with hp | hp
    · simp only [List.mem_cons,List.not_mem_nil,or_false] at hp
      rcases hp with rfl | rfl
      · exact ⟨Qem 0 hxs r15_10 (fun i hi=>by rw [Nat.zero_add]; exact Qar .u8 xs i (by omega)) (QaB r15_10) (by decide) (by decide),hbxs⟩
      · exact ⟨Qem 0 hys r21_10 (fun i hi=>by rw [Nat.zero_add]; exact Qar .u8 ys i (by omega)) (QaB r21_10) (by decide) (by decide),hbys⟩
    · exact ⟨RdK.here ((hps p hp).1.ext x10),(hps p hp).2⟩
  have hfl:(((([(.slice (some ⟨g15,0,none⟩) 32 32,xs),(.slice (some ⟨g21,0,none⟩) 32 32,ys)]:List (Value×List Int))++ps).map Prod.snd).flatten)=xs++ys++(ps.map Prod.snd).flatten:=by simp
  have hcs9:∀ i,i<(([(.slice (some ⟨g15,0,none⟩) 32 32,xs),(.slice (some ⟨g21,0,none⟩) 32 32,ys)]:List (Value×List Int))++ps).length→cul[i]? = some (pat (([(.slice (some ⟨g15,0,none⟩) 32 32,xs),(.slice (some ⟨g21,0,none⟩) 32 32,ys)]:List (Value×List Int))++ps) i).1:=fun i hi=>hcl i _ (by rw [Qh6 hi]; rw [show []++[.slice (some ⟨g15,0,none⟩) 32 32]++[.slice (some ⟨g21,0,none⟩) 32 32]++(ps.map Prod.fst)=(([(.slice (some ⟨g15,0,none⟩) 32 32,xs),(.slice (some ⟨g21,0,none⟩) 32 32,ys)]:List (Value×List Int))++ps).map Prod.fst by simp]; rw [List.getElem?_map,List.getElem?_eq_getElem hi]; rfl)
  have hlg:=Qpb gl (2+n) cl cul 27 (([(.slice (some ⟨g15,0,none⟩) 32 32,xs),(.slice (some ⟨g21,0,none⟩) 32 32,ys)]:List (Value×List Int))++ps) (by simp only [List.length_append,List.length_cons,List.length_nil,hn]) (by omega) tc tq W10 (Qb7 q10 (Qb7 q9 (Qaa (Puts.row p7 (Qaa r1_5 e6) (Qab r1_5 l21)) e8) (Qc2 ho8_23 (QaB hc))) (Qc2 ho9_27 (QaB hc))) (Qb7 q10 (Qb7 q9 (Qaa (Puts.row p7 (Qaa r2_5 e6) (Qab r2_5 l21)) e8) (Qc2 ho8_23 (QaB hq))) (Qc2 ho9_27 (QaB hq))) rl9 hcs9 hps9 (by rw [hfl]; simp only [List.length_append,hxs,hys]; omega)
  rw [hfl] at hlg
  subst elv
  refine Qap (.agg (ints .u8 (dig (xs++ys++(ps.map Prod.snd).flatten)))) 41 #[.slice (some ⟨gl,0,none⟩) (2+n) cl] 25 rfl kj kj hlg fun W11 e11=>?_
  have x11:=Ext.tr x10 e11
  refine Qah (ints .u8 (List.replicate 64 0)) 30 8 rfl kj kj fun g29 W12 l29 e12 r29_12=>Qai g29 _ (ints .u8 (dig (xs++ys++(ps.map Prod.snd).flatten))) 30 r29_12 rfl kj (Qaf 30 _ _ g29 30 _ _ r29_12 rfl kj kj (isz (n:=64) kj ((Qad _ _).trans (dig_len _))) (eqsz (n:=64) ((Qad _ _).trans (qZ (n:=64))) ((Qad _ _).trans (dig_len _))) (ints_one _ _)) fun W13 p13 r29_13=>sgN hK26 <| sgC fun K30 hK30=>sg 1 kj ?_
  have r3_1:=(Qaa hO e1)
  have r3_5:=(Qb7 q5 (Qaa (Puts.row p3 (Qaa r3_1 e2) (Qab r3_1 l15)) e4) (Qc2 hu0 (QaB hO)))
  have r3_11:=(Qaa (Qb7 q10 (Qb7 q9 (Qaa (Puts.row p7 (Qaa r3_5 e6) (Qab r3_5 l21)) e8) (Qc2 ho8_23 (QaB hO))) (Qc2 ho9_27 (QaB hO))) e11)
  refine Qap (.tuple #[.agg (ints .u8 (Qaq (resN (dig (xs++ys++(ps.map Prod.snd).flatten))))),.bool true]) 61 #[.slice (some ⟨g29,0,none⟩) 64 64] 28 rfl kj kj (Field.reduce_ok (some ⟨g29,0,none⟩) 64 64 (dig (xs++ys++(ps.map Prod.snd).flatten)) (dig_len _) (qR _) (dig_bytes _) _ tO (Puts.row p13 (Qaa r3_11 e12) (Qab r3_11 l29)) (.inr ⟨g29,0,rfl,QaB r29_13,fun i hi=>Qa9 r29_13 (by rw [Nat.zero_add]; exact Qar .u8 _ i (by rw [dig_len]; exact hi))⟩)) fun W14 e14=>?_
  have x14:=Ext.tr (Puts.ext p13 (Ext.tr x11 e12) (qT x11.size l29)) e14
  refine sg 3 kj <| Qah (ints .u8 (List.replicate 32 0)) 23 9 rfl kj kj fun g31 W15 l31 e15 r31_15=>Qai g31 _ (ints .u8 (Qaq (resN (dig (xs++ys++(ps.map Prod.snd).flatten))))) 23 r31_15 rfl kj (Qaf 23 _ _ g31 23 _ _ r31_15 rfl kj kj (isz (n:=32) kj ((Qad _ _).trans (bytesOf_len _))) (eqsz (n:=32) ((Qad _ _).trans (qZ (n:=32))) ((Qad _ _).trans (bytesOf_len _))) (ints_one _ _)) fun W16 p16 r31_16=>sg 1 kj <| sgN hK30 <| sgC fun K32 hK32=>Qag (.agg (ints .u8 (Qaq (resN (dig (xs++ys++(ps.map Prod.snd).flatten)))))) 31 rfl kj (Qac 23 _ g31 23 _ _ r31_16 rfl kj kj (isz (n:=32) kj ((Qad _ _).trans (bytesOf_len _)))) ?_
  have r7_4:=(Qaa (Puts.row p3 (Qaa r7_1 e2) (Qab r7_1 l15)) e4)
  have r7_5:=(Qb7 q5 r7_4 (QcN hu0 r7_4 (by decide)))
  have r7_8:=(Qaa (Puts.row p7 (Qaa r7_5 e6) (Qab r7_5 l21)) e8)
  have r7_9:=(Qb7 q9 r7_8 (QcN ho8_23 r7_8 (by decide)))
  have r7_10:=(Qb7 q10 r7_9 (QcN ho9_27 r7_9 (by decide)))
  have r7_11:=(Qaa r7_10 e11)
  have r7_14:=(Qaa (Puts.row p13 (Qaa r7_11 e12) (Qab r7_11 l29)) e14)
  have r7_16:=(Puts.row p16 (Qaa r7_14 e15) (Qab r7_14 l31))
  refine Qai g7 _ (ints .u8 (Qaq (resN (dig (xs++ys++(ps.map Prod.snd).flatten))))) 23 r7_16 rfl kj (Qaf 23 _ _ g7 23 _ _ r7_16 rfl kj kj (isz (n:=32) kj ((Qad _ _).trans (bytesOf_len _))) (eqsz (n:=32) ((Qad _ _).trans (qZ (n:=32))) ((Qad _ _).trans (bytesOf_len _))) (ints_one _ _)) fun W17 p17 r7_17=>sgN hK32 <| wp_ret ?_
  repeat (first | with_reducible refine goR1 ?_ | with_reducible refine goR2 ?_)
  exact (show bodyPost _ _ _ .ret _ _ from ret1 (.agg (ints .u8 (Qaq (resN (dig (xs++ys++(ps.map Prod.snd).flatten)))))) rfl (Qa8 g7 23 _ r7_17 kj kj (isz (n:=32) kj ((Qad _ _).trans (bytesOf_len _)))) ⟨rfl,(Puts.ext p17 (Puts.ext p16 (Ext.tr x14 e15) (qT x14.size l31)) (qT (Rely.Ext.refl w).size l7))⟩)
end Go.Proofs.YtdoadngmgmdlbaaDoor.Sgn
end
section
namespace Go.Proofs.YtdoadngmgmdlbaaDoor.Field
open Go Go.RowKit
open Rely Auto
def patF (x y:Int):Int×Int :=
  let s0:=(y-1)%p
  (x,s0)
theorem QmA (x y:Int) (h_x:isN x) (h_y:isN y) (s0:Int)
    (c0:∀ W,Calls Tryd.prog 69 #[.agg (numA (y)),.agg (numA (1))] W (Ret W (.agg (numA (s0))))) (w:World) :
    Calls Tryd.prog 43 #[.agg (numA (x)),.agg (numA (y))] w (Ret w (.agg (cat [numA (x),numA (s0)]))):=by
  refine enter 10 [(0,.agg (numA (x))),(1,.agg (numA (y)))] Tryd.func43 rfl rfl kj rfl <| sgC fun K1 hK1=>Qah (numA (x)) 49 2 rfl kj kj fun g2 W1 l2 e1 r2_1=>?_
  have x1:=Ext.tr (Rely.Ext.refl w) e1
  have b2:=qT (Rely.Ext.refl w).size l2
  refine Qah (numA (y)) 49 3 rfl kj kj fun g3 W2 l3 e2 r3_2=>?_
  have x2:=Ext.tr x1 e2
  have b3:=qT x1.size l3
  refine Qah (cat [numA (0),numA (0)]) 51 4 rfl kj kj fun g4 W3 l4 e3 r4_3=>sgN hK1 <| wp_seq_k fun K5 hK5=>QaC 5 [⟨none,[(2,none)]⟩,⟨none,[(3,none)]⟩,⟨none,[]⟩,⟨none,[(6,some 1),(7,some 2)]⟩,⟨none,[(5,some 0),(8,some 3)]⟩] kj kj fun F hF=>Qal (.agg (numA (x))) kj kj (fun W hR=>(Qac 49 _ g2 49 _ _ (Qaa (Qaa (Qaa (Qaa r2_1 e2) e3) (Qae _)) hR) rfl kj kj (isz (n:=4) kj kj))) <| Qal (.agg (numA (y))) kj kj (fun W hR=>(Qac 49 _ g3 49 _ _ (Qaa (Qaa (Qaa r3_2 e3) (Qae _)) hR) rfl kj kj (isz (n:=4) kj kj))) <| Qan (.agg (numA (1))) 67 #[.int .i64 1] kj kj (fun W=>kj) (fun W hR=>(QdC 1 (by decide)) W) <| Qan (.agg (numA (s0))) 69 #[.agg (numA (y)),.agg (numA (1))] kj kj (fun W=>kj) (fun W hR=>c0 W) <| Qay (.agg (cat [numA (x),numA (s0)])) kj kj (fun W=>kj) <| Qa2 (hF _ kj fun W4 e4=>?_)
  simp only [ups,up,Kn.val,List.take_succ_cons,List.take_zero,List.drop_succ_cons,List.drop_zero,List.nil_append,List.cons_append]
  clear hF
  have r4_4:=(Qaa r4_3 e4)
  refine Qai g4 _ (cat [numA (x),numA (s0)]) 51 r4_4 rfl kj (Qaf 51 _ _ g4 51 _ _ r4_4 rfl kj kj (isz (n:=8) kj kj) (eqsz (n:=8) kj kj) kj) fun W5 p5 r4_5=>sgN hK5 <| wp_ret ?_
  exact (show bodyPost _ _ _ .ret _ _ from ret1 (.agg (cat [numA (x),numA (s0)])) rfl (Qa8 g4 51 _ r4_5 kj kj (isz (n:=8) kj kj)) ⟨rfl,(Puts.ext p5 (Ext.tr (Ext.tr x2 e3) e4) (qT x2.size l4))⟩)
theorem patC (x y:Int) (h_x:isN x) (h_y:isN y) (w:World):Calls Tryd.prog 43 #[.agg (numA (x)),.agg (numA (y))] w (Ret w (.agg (cat [numA ((patF x y).1),numA ((patF x y).2)]))) :=
  QmA x y h_x h_y _ (sub _ _ h_y (num_isN 1)) w
def QgM (x : Int):Int :=
  let s0:=(0-x)%p
  (s0)
theorem QkR (x : Int) (h_x:isN x) (s0:Int)
    (c0:∀ W,Calls Tryd.prog 69 #[.agg (numA (0)),.agg (numA (x))] W (Ret W (.agg (numA (s0))))) (w:World) :
    Calls Tryd.prog 72 #[.agg (numA (x))] w (Ret w (.agg (numA (s0)))):=by
  refine enter 6 [(0,.agg (numA (x)))] Tryd.func72 rfl rfl kj rfl <| sgC fun K1 hK1=>Qah (numA (x)) 49 1 rfl kj kj fun g2 W1 l2 e1 r2_1=>?_
  have x1:=Ext.tr (Rely.Ext.refl w) e1
  have b2:=qT (Rely.Ext.refl w).size l2
  refine Qah (numA (0)) 49 2 rfl kj kj fun g3 W2 l3 e2 r3_2=>sgN hK1 <| sgC fun K4 hK4=>sg 1 kj <| Qag (.agg (numA (x))) 4 rfl kj (Qac 49 _ g2 49 _ _ (Qaa r2_1 e2) rfl kj kj (isz (n:=4) kj kj)) <| Qap (.agg (numA (s0))) 69 #[.agg (numA (0)),.agg (numA (x))] 5 rfl kj kj (c0 _) fun W3 e3=>?_
  have r3_3:=(Qaa r3_2 e3)
  refine Qai g3 _ (numA (s0)) 49 r3_3 rfl kj (Qaf 49 _ _ g3 49 _ _ r3_3 rfl kj kj (isz (n:=4) kj kj) (eqsz (n:=4) kj kj) kj) fun W4 p4 r3_4=>sgN hK4 <| wp_ret ?_
  exact (show bodyPost _ _ _ .ret _ _ from ret1 (.agg (numA (s0))) rfl (Qa8 g3 49 _ r3_4 kj kj (isz (n:=4) kj kj)) ⟨rfl,(Puts.ext p4 (Ext.tr (Ext.tr x1 e2) e3) (qT x1.size l3))⟩)
theorem Qqi (x : Int) (h_x:isN x) (w:World):Calls Tryd.prog 72 #[.agg (numA (x))] w (Ret w (.agg (numA ((QgM x))))) :=
  QkR x h_x _ (sub _ _ (num_isN 0) h_x) w
theorem Qjd (x : Int) (h_x:isN x):isN (QgM x):=(isN_mod _)
def pyF (x l:Int):Int :=
  let s0:=(l+1)%p
  (s0)
theorem Qoz (x l:Int) (h_x:isN x) (h_l:isN l) (s0:Int)
    (c0:∀ W,Calls Tryd.prog 68 #[.agg (numA (l)),.agg (numA (1))] W (Ret W (.agg (numA (s0))))) (w:World) :
    Calls Tryd.prog 49 #[.agg (cat [numA (x),numA (l)])] w (Ret w (.agg (numA (s0)))):=by
  refine enter 7 [(0,.agg (cat [numA (x),numA (l)]))] Tryd.func49 rfl rfl kj rfl <| sgC fun K1 hK1=>Qah (cat [numA (x),numA (l)]) 51 1 rfl kj kj fun g2 W1 l2 e1 r2_1=>?_
  have x1:=Ext.tr (Rely.Ext.refl w) e1
  have b2:=qT (Rely.Ext.refl w).size l2
  refine Qah (numA (0)) 49 2 rfl kj kj fun g3 W2 l3 e2 r3_2=>sgN hK1 <| wp_seq_k fun K4 hK4=>QaC 4 [⟨none,[(1,none)]⟩,⟨none,[(3,some 0)]⟩,⟨none,[]⟩,⟨none,[(4,some 1),(5,some 2)]⟩] kj kj fun F hF=>Qay (.pointer (some ⟨g2,4,none⟩)) kj kj (fun W=>kj) <| Qal (.agg (numA (l))) kj kj (fun W hR=>(Qaw 49 _ g2 4 51 _ _ _ (Qaa (Qaa (Qaa r2_1 e2) (Qae _)) hR) rfl kj (QaH [numA (x)] [numA (l)] [] 4 kj) kj (isz (n:=4) kj kj))) <| Qan (.agg (numA (1))) 67 #[.int .i64 1] kj kj (fun W=>kj) (fun W hR=>(QdC 1 (by decide)) W) <| Qan (.agg (numA (s0))) 68 #[.agg (numA (l)),.agg (numA (1))] kj kj (fun W=>kj) (fun W hR=>c0 W) <| Qa2 (hF _ kj fun W3 e3=>?_)
  simp only [ups,up,Kn.val,List.take_succ_cons,List.take_zero,List.drop_succ_cons,List.drop_zero,List.nil_append,List.cons_append]
  clear hF
  have r3_3:=(Qaa r3_2 e3)
  refine Qai g3 _ (numA (s0)) 49 r3_3 rfl kj (Qaf 49 _ _ g3 49 _ _ r3_3 rfl kj kj (isz (n:=4) kj kj) (eqsz (n:=4) kj kj) kj) fun W4 p4 r3_4=>sgN hK4 <| wp_ret ?_
  exact (show bodyPost _ _ _ .ret _ _ from ret1 (.agg (numA (s0))) rfl (Qa8 g3 49 _ r3_4 kj kj (isz (n:=4) kj kj)) ⟨rfl,(Puts.ext p4 (Ext.tr (Ext.tr x1 e2) e3) (qT x1.size l3))⟩)
theorem pyC (x l:Int) (h_x:isN x) (h_l:isN l) (w:World):Calls Tryd.prog 49 #[.agg (cat [numA (x),numA (l)])] w (Ret w (.agg (numA ((pyF x l))))) :=
  Qoz x l h_x h_l _ (add _ _ h_l (num_isN 1)) w
theorem Qh0 (x l:Int) (h_x:isN x) (h_l:isN l):isN (pyF x l):=(isN_mod _)
def QcK (x l:Int):Int×Int×Int×Int :=
  let s0:=(pyF x l)
  let s1:=x*s0%p
  (x,s0,1,s1)
theorem QjU (x l:Int) (h_x:isN x) (h_l:isN l) (s0 s1:Int)
    (c0:∀ W,Calls Tryd.prog 49 #[.agg (cat [numA (x),numA (l)])] W (Ret W (.agg (numA (s0)))))
    (c1:∀ W,Calls Tryd.prog 66 #[.agg (numA (x)),.agg (numA (s0))] W (Ret W (.agg (numA (s1))))) (w:World) :
    Calls Tryd.prog 45 #[.agg (cat [numA (x),numA (l)])] w (Ret w (.agg (cat [numA (x),numA (s0),numA (1),numA (s1)]))):=by
  refine enter 14 [(0,.agg (cat [numA (x),numA (l)]))] Tryd.func45 rfl rfl kj rfl <| sgC fun K1 hK1=>Qah (cat [numA (x),numA (l)]) 51 1 rfl kj kj fun g2 W1 l2 e1 r2_1=>?_
  have x1:=Ext.tr (Rely.Ext.refl w) e1
  have b2:=qT (Rely.Ext.refl w).size l2
  refine Qah (cat [numA (0),numA (0),numA (0),numA (0)]) 78 2 rfl kj kj fun g3 W2 l3 e2 r3_2=>sgN hK1 <| wp_seq_k fun K4 hK4=>QaC 11 [⟨none,[(1,none)]⟩,⟨none,[(3,some 0)]⟩,⟨none,[(1,none)]⟩,⟨none,[(5,some 2)]⟩,⟨none,[]⟩,⟨none,[(1,none)]⟩,⟨none,[(8,some 5)]⟩,⟨none,[(1,none)]⟩,⟨none,[(10,some 7)]⟩,⟨none,[(9,some 6),(11,some 8)]⟩,⟨none,[(4,some 1),(6,some 3),(7,some 4),(12,some 9)]⟩] kj kj fun F hF=>Qay (.pointer (some ⟨g2,0,none⟩)) kj kj (fun W=>kj) ?_
  have r2_2:=(Qaa r2_1 e2)
  refine Qal (.agg (numA (x))) kj kj (fun W hR=>(Qaw 49 _ g2 0 51 _ _ _ (Qaa (Qaa r2_2 (Qae _)) hR) rfl kj (QaH [] [numA (x)] [numA (l)] 0 kj) kj (isz (n:=4) kj kj))) <| Qal (.agg (cat [numA (x),numA (l)])) kj kj (fun W hR=>(Qac 51 _ g2 51 _ _ (Qaa (Qaa r2_2 (Qae _)) hR) rfl kj kj (isz (n:=8) kj kj))) <| Qan (.agg (numA (s0))) 49 #[.agg (cat [numA (x),numA (l)])] kj kj (fun W=>kj) (fun W hR=>c0 W) <| Qan (.agg (numA (1))) 67 #[.int .i64 1] kj kj (fun W=>kj) (fun W hR=>(QdC 1 (by decide)) W) <| Qay (.pointer (some ⟨g2,0,none⟩)) kj kj (fun W=>kj) <| Qal (.agg (numA (x))) kj kj (fun W hR=>(Qaw 49 _ g2 0 51 _ _ _ (Qaa (Qaa r2_2 (Qae _)) hR) rfl kj (QaH [] [numA (x)] [numA (l)] 0 kj) kj (isz (n:=4) kj kj))) <| Qal (.agg (cat [numA (x),numA (l)])) kj kj (fun W hR=>(Qac 51 _ g2 51 _ _ (Qaa (Qaa r2_2 (Qae _)) hR) rfl kj kj (isz (n:=8) kj kj))) <| Qan (.agg (numA (s0))) 49 #[.agg (cat [numA (x),numA (l)])] kj kj (fun W=>kj) (fun W hR=>c0 W) <| Qan (.agg (numA (s1))) 66 #[.agg (numA (x)),.agg (numA (s0))] kj kj (fun W=>kj) (fun W hR=>c1 W) <| Qay (.agg (cat [numA (x),numA (s0),numA (1),numA (s1)])) kj kj (fun W=>kj) ?_
  refine Qa2 (hF _ kj fun W3 e3=>?_)
  simp only [ups,up,Kn.val,List.take_succ_cons,List.take_zero,List.drop_succ_cons,List.drop_zero,List.nil_append,List.cons_append]
  clear hF
  have r3_3:=(Qaa r3_2 e3)
  refine Qai g3 _ (cat [numA (x),numA (s0),numA (1),numA (s1)]) 78 r3_3 rfl kj (Qaf 78 _ _ g3 78 _ _ r3_3 rfl kj kj (isz (n:=16) kj kj) (eqsz (n:=16) kj kj) kj) fun W4 p4 r3_4=>sgN hK4 <| wp_ret ?_
  exact (show bodyPost _ _ _ .ret _ _ from ret1 (.agg (cat [numA (x),numA (s0),numA (1),numA (s1)])) rfl (Qa8 g3 78 _ r3_4 kj kj (isz (n:=16) kj kj)) ⟨rfl,(Puts.ext p4 (Ext.tr (Ext.tr x1 e2) e3) (qT x1.size l3))⟩)
theorem QiZ (x l:Int) (h_x:isN x) (h_l:isN l) (w:World):Calls Tryd.prog 45 #[.agg (cat [numA (x),numA (l)])] w (Ret w (.agg (cat [numA ((QcK x l).1),numA ((QcK x l).2.1),numA ((QcK x l).2.2.1),numA ((QcK x l).2.2.2)]))) :=
  QjU x l h_x h_l _ _ (pyC _ _ h_x h_l) (mul _ _ h_x (Qh0 _ _ h_x h_l)) w
theorem QaF (x l:Int) (h_x:isN x) (h_l:isN l):isN (QcK x l).1∧isN (QcK x l).2.1∧isN (QcK x l).2.2.1∧isN (QcK x l).2.2.2:=⟨h_x,(Qh0 _ _ h_x h_l),(num_isN 1),(isN_mod _)⟩
def QcM (a b c d e f g h k:Int):Int×Int×Int×Int :=
  let s0:=(b-a)%p
  let s1:=(f-e)%p
  let s2:=s0*s1%p
  let s3:=(b+a)%p
  let s4:=(f+e)%p
  let s5:=s3*s4%p
  let s6:=d*h%p
  let s7:=s6*k%p
  let s8:=(s7+s7)%p
  let s9:=c*g%p
  let s10:=(s9+s9)%p
  let s11:=(s5-s2)%p
  let s12:=(s10-s8)%p
  let s13:=(s10+s8)%p
  let s14:=(s5+s2)%p
  let s15:=s11*s12%p
  let s16:=s13*s14%p
  let s17:=s12*s13%p
  let s18:=s11*s14%p
  (s15,s16,s17,s18)
theorem Qkw (a b c d e f g h k:Int) (h_a:isN a) (h_b:isN b) (h_c:isN c) (h_d:isN d) (h_e:isN e) (h_f:isN f) (h_g:isN g) (h_h:isN h) (h_k:isN k) (s0 s1 s2 s3 s4 s5 s6 s7 s8 s9 s10 s11 s12 s13 s14 s15 s16 s17 s18:Int)
    (c0:∀ W,Calls Tryd.prog 69 #[.agg (numA (b)),.agg (numA (a))] W (Ret W (.agg (numA (s0)))))
    (c1:∀ W,Calls Tryd.prog 69 #[.agg (numA (f)),.agg (numA (e))] W (Ret W (.agg (numA (s1)))))
    (c2:∀ W,Calls Tryd.prog 66 #[.agg (numA (s0)),.agg (numA (s1))] W (Ret W (.agg (numA (s2)))))
    (c3:∀ W,Calls Tryd.prog 68 #[.agg (numA (b)),.agg (numA (a))] W (Ret W (.agg (numA (s3)))))
    (c4:∀ W,Calls Tryd.prog 68 #[.agg (numA (f)),.agg (numA (e))] W (Ret W (.agg (numA (s4)))))
    (c5:∀ W,Calls Tryd.prog 66 #[.agg (numA (s3)),.agg (numA (s4))] W (Ret W (.agg (numA (s5)))))
    (c6:∀ W,Calls Tryd.prog 66 #[.agg (numA (d)),.agg (numA (h))] W (Ret W (.agg (numA (s6)))))
    (c7:∀ W,Calls Tryd.prog 66 #[.agg (numA (s6)),.agg (numA (k))] W (Ret W (.agg (numA (s7)))))
    (c8:∀ W,Calls Tryd.prog 68 #[.agg (numA (s7)),.agg (numA (s7))] W (Ret W (.agg (numA (s8)))))
    (c9:∀ W,Calls Tryd.prog 66 #[.agg (numA (c)),.agg (numA (g))] W (Ret W (.agg (numA (s9)))))
    (c10:∀ W,Calls Tryd.prog 68 #[.agg (numA (s9)),.agg (numA (s9))] W (Ret W (.agg (numA (s10)))))
    (c11:∀ W,Calls Tryd.prog 69 #[.agg (numA (s5)),.agg (numA (s2))] W (Ret W (.agg (numA (s11)))))
    (c12:∀ W,Calls Tryd.prog 69 #[.agg (numA (s10)),.agg (numA (s8))] W (Ret W (.agg (numA (s12)))))
    (c13:∀ W,Calls Tryd.prog 68 #[.agg (numA (s10)),.agg (numA (s8))] W (Ret W (.agg (numA (s13)))))
    (c14:∀ W,Calls Tryd.prog 68 #[.agg (numA (s5)),.agg (numA (s2))] W (Ret W (.agg (numA (s14)))))
    (c15:∀ W,Calls Tryd.prog 66 #[.agg (numA (s11)),.agg (numA (s12))] W (Ret W (.agg (numA (s15)))))
    (c16:∀ W,Calls Tryd.prog 66 #[.agg (numA (s13)),.agg (numA (s14))] W (Ret W (.agg (numA (s16)))))
    (c17:∀ W,Calls Tryd.prog 66 #[.agg (numA (s12)),.agg (numA (s13))] W (Ret W (.agg (numA (s17)))))
    (c18:∀ W,Calls Tryd.prog 66 #[.agg (numA (s11)),.agg (numA (s14))] W (Ret W (.agg (numA (s18))))) (w:World) :
    Calls Tryd.prog 47 #[.agg (cat [numA (a),numA (b),numA (c),numA (d)]),.agg (cat [numA (e),numA (f),numA (g),numA (h)]),.agg (numA (k))] w (Ret w (.agg (cat [numA (s15),numA (s16),numA (s17),numA (s18)]))):=by
  refine enter 80 [(0,.agg (cat [numA (a),numA (b),numA (c),numA (d)])),(1,.agg (cat [numA (e),numA (f),numA (g),numA (h)])),(2,.agg (numA (k)))] Tryd.func47 rfl rfl kj rfl <| sgC fun K1 hK1=>Qah (cat [numA (a),numA (b),numA (c),numA (d)]) 78 3 rfl kj kj fun g2 W1 l2 e1 r2_1=>?_
  have x1:=Ext.tr (Rely.Ext.refl w) e1
  have b2:=qT (Rely.Ext.refl w).size l2
  refine Qah (cat [numA (e),numA (f),numA (g),numA (h)]) 78 4 rfl kj kj fun g3 W2 l3 e2 r3_2=>?_
  have x2:=Ext.tr x1 e2
  have b3:=qT x1.size l3
  refine Qah (numA (k)) 49 5 rfl kj kj fun g4 W3 l4 e3 r4_3=>?_
  have x3:=Ext.tr x2 e3
  have b4:=qT x2.size l4
  refine Qah (cat [numA (0),numA (0),numA (0),numA (0)]) 78 6 rfl kj kj fun g5 W4 l5 e4 r5_4=>?_
  have x4:=Ext.tr x3 e4
  refine sgN hK1 <| wp_seq_k fun K6 hK6=>QaX 12 [⟨none,[(3,none)]⟩,⟨none,[(15,some 0)]⟩,⟨none,[(3,none)]⟩,⟨none,[(17,some 2)]⟩,⟨none,[(16,some 1),(18,some 3)]⟩,⟨none,[(4,none)]⟩,⟨none,[(20,some 5)]⟩,⟨none,[(4,none)]⟩,⟨none,[(22,some 7)]⟩,⟨none,[(21,some 6),(23,some 8)]⟩,⟨none,[(19,some 4),(24,some 9)]⟩,⟨none,[]⟩] [11] kj kj kj fun F hF=>Qay (.pointer (some ⟨g2,4,none⟩)) kj kj (fun W=>kj) ?_
  have r2_4:=(Qaa (Qaa (Qaa r2_1 e2) e3) e4)
  refine Qal (.agg (numA (b))) kj kj (fun W hR=>(Qaw 49 _ g2 4 78 _ _ _ (Qaa (Qaa r2_4 (Qae _)) hR) rfl kj (QaH [numA (a)] [numA (b)] [numA (c),numA (d)] 4 kj) kj (isz (n:=4) kj kj))) <| Qay (.pointer (some ⟨g2,0,none⟩)) kj kj (fun W=>kj) <| Qal (.agg (numA (a))) kj kj (fun W hR=>(Qaw 49 _ g2 0 78 _ _ _ (Qaa (Qaa r2_4 (Qae _)) hR) rfl kj (QaH [] [numA (a)] [numA (b),numA (c),numA (d)] 0 kj) kj (isz (n:=4) kj kj))) <| Qan (.agg (numA (s0))) 69 #[.agg (numA (b)),.agg (numA (a))] kj kj (fun W=>kj) (fun W hR=>c0 W) <| Qay (.pointer (some ⟨g3,4,none⟩)) kj kj (fun W=>kj) ?_
  have r3_4:=(Qaa (Qaa r3_2 e3) e4)
  refine Qal (.agg (numA (f))) kj kj (fun W hR=>(Qaw 49 _ g3 4 78 _ _ _ (Qaa (Qaa r3_4 (Qae _)) hR) rfl kj (QaH [numA (e)] [numA (f)] [numA (g),numA (h)] 4 kj) kj (isz (n:=4) kj kj))) <| Qay (.pointer (some ⟨g3,0,none⟩)) kj kj (fun W=>kj) <| Qal (.agg (numA (e))) kj kj (fun W hR=>(Qaw 49 _ g3 0 78 _ _ _ (Qaa (Qaa r3_4 (Qae _)) hR) rfl kj (QaH [] [numA (e)] [numA (f),numA (g),numA (h)] 0 kj) kj (isz (n:=4) kj kj))) <| Qan (.agg (numA (s1))) 69 #[.agg (numA (f)),.agg (numA (e))] kj kj (fun W=>kj) (fun W hR=>c1 W) <| Qan (.agg (numA (s2))) 66 #[.agg (numA (s0)),.agg (numA (s1))] kj kj (fun W=>kj) (fun W hR=>c2 W) <| Qb5 (numA (0)) 49 kj (qR _) kj (fun W=>kj) <| Qa2 (hF _ kj fun W5 e5=>?_)
  simp only [fins,up,List.take_succ_cons,List.take_zero,List.drop_succ_cons,List.drop_zero,List.nil_append,List.cons_append]
  intro g7 l7 r7_5 n7
  clear hF
  refine Qai g7 _ (numA (s2)) 49 r7_5 rfl kj (Qaf 49 _ _ g7 49 _ _ r7_5 rfl kj kj (isz (n:=4) kj kj) (eqsz (n:=4) kj kj) kj) fun W6 p6 r7_6=>?_
  have x6:=Puts.ext p6 (Ext.tr x4 e5) (qT x4.size l7)
  refine sgN hK6 <| wp_seq_k fun K8 hK8=>QaX 12 [⟨none,[(3,none)]⟩,⟨none,[(26,some 0)]⟩,⟨none,[(3,none)]⟩,⟨none,[(28,some 2)]⟩,⟨none,[(27,some 1),(29,some 3)]⟩,⟨none,[(4,none)]⟩,⟨none,[(31,some 5)]⟩,⟨none,[(4,none)]⟩,⟨none,[(33,some 7)]⟩,⟨none,[(32,some 6),(34,some 8)]⟩,⟨none,[(30,some 4),(35,some 9)]⟩,⟨none,[]⟩] [11] kj kj kj fun F hF=>Qay (.pointer (some ⟨g2,4,none⟩)) kj kj (fun W=>kj) ?_
  have r2_6:=(Puts.row p6 (Qaa r2_4 e5) (Qab r2_4 l7))
  refine Qal (.agg (numA (b))) kj kj (fun W hR=>(Qaw 49 _ g2 4 78 _ _ _ (Qaa (Qaa r2_6 (Qae _)) hR) rfl kj (QaH [numA (a)] [numA (b)] [numA (c),numA (d)] 4 kj) kj (isz (n:=4) kj kj))) <| Qay (.pointer (some ⟨g2,0,none⟩)) kj kj (fun W=>kj) <| Qal (.agg (numA (a))) kj kj (fun W hR=>(Qaw 49 _ g2 0 78 _ _ _ (Qaa (Qaa r2_6 (Qae _)) hR) rfl kj (QaH [] [numA (a)] [numA (b),numA (c),numA (d)] 0 kj) kj (isz (n:=4) kj kj))) <| Qan (.agg (numA (s3))) 68 #[.agg (numA (b)),.agg (numA (a))] kj kj (fun W=>kj) (fun W hR=>c3 W) <| Qay (.pointer (some ⟨g3,4,none⟩)) kj kj (fun W=>kj) ?_
  have r3_6:=(Puts.row p6 (Qaa r3_4 e5) (Qab r3_4 l7))
  refine Qal (.agg (numA (f))) kj kj (fun W hR=>(Qaw 49 _ g3 4 78 _ _ _ (Qaa (Qaa r3_6 (Qae _)) hR) rfl kj (QaH [numA (e)] [numA (f)] [numA (g),numA (h)] 4 kj) kj (isz (n:=4) kj kj))) <| Qay (.pointer (some ⟨g3,0,none⟩)) kj kj (fun W=>kj) <| Qal (.agg (numA (e))) kj kj (fun W hR=>(Qaw 49 _ g3 0 78 _ _ _ (Qaa (Qaa r3_6 (Qae _)) hR) rfl kj (QaH [] [numA (e)] [numA (f),numA (g),numA (h)] 0 kj) kj (isz (n:=4) kj kj))) <| Qan (.agg (numA (s4))) 68 #[.agg (numA (f)),.agg (numA (e))] kj kj (fun W=>kj) (fun W hR=>c4 W) <| Qan (.agg (numA (s5))) 66 #[.agg (numA (s3)),.agg (numA (s4))] kj kj (fun W=>kj) (fun W hR=>c5 W) <| Qb5 (numA (0)) 49 kj (qR _) kj (fun W=>kj) <| Qa2 (hF _ kj fun W7 e7=>?_)
  simp only [fins,up,List.take_succ_cons,List.take_zero,List.drop_succ_cons,List.drop_zero,List.nil_append,List.cons_append]
  intro g9 l9 r9_7 n9
  clear hF
  refine Qai g9 _ (numA (s5)) 49 r9_7 rfl kj (Qaf 49 _ _ g9 49 _ _ r9_7 rfl kj kj (isz (n:=4) kj kj) (eqsz (n:=4) kj kj) kj) fun W8 p8 r9_8=>?_
  have x8:=Puts.ext p8 (Ext.tr x6 e7) (qT x6.size l9)
  refine sgN hK8 <| wp_seq_k fun K10 hK10=>QaX 8 [⟨none,[(3,none)]⟩,⟨none,[(37,some 0)]⟩,⟨none,[(4,none)]⟩,⟨none,[(39,some 2)]⟩,⟨none,[(38,some 1),(40,some 3)]⟩,⟨none,[(5,none)]⟩,⟨none,[(41,some 4),(42,some 5)]⟩,⟨none,[]⟩] [7] kj kj kj fun F hF=>Qay (.pointer (some ⟨g2,12,none⟩)) kj kj (fun W=>kj) ?_
  have r2_8:=(Puts.row p8 (Qaa r2_6 e7) (Qab r2_6 l9))
  refine Qal (.agg (numA (d))) kj kj (fun W hR=>(Qaw 49 _ g2 12 78 _ _ _ (Qaa (Qaa r2_8 (Qae _)) hR) rfl kj (QaH [numA (a),numA (b),numA (c)] [numA (d)] [] 12 kj) kj (isz (n:=4) kj kj))) <| Qay (.pointer (some ⟨g3,12,none⟩)) kj kj (fun W=>kj) ?_
  have r3_8:=(Puts.row p8 (Qaa r3_6 e7) (Qab r3_6 l9))
  refine Qal (.agg (numA (h))) kj kj (fun W hR=>(Qaw 49 _ g3 12 78 _ _ _ (Qaa (Qaa r3_8 (Qae _)) hR) rfl kj (QaH [numA (e),numA (f),numA (g)] [numA (h)] [] 12 kj) kj (isz (n:=4) kj kj))) <| Qan (.agg (numA (s6))) 66 #[.agg (numA (d)),.agg (numA (h))] kj kj (fun W=>kj) (fun W hR=>c6 W) ?_
  have r4_4:=(Qaa r4_3 e4)
  refine Qal (.agg (numA (k))) kj kj (fun W hR=>(Qac 49 _ g4 49 _ _ (Qaa (Qaa (Puts.row p8 (Qaa (Puts.row p6 (Qaa (Qaa r4_3 e4) e5) (Qab r4_4 l7)) e7) (Qab (Puts.row p6 (Qaa r4_4 e5) (Qab r4_4 l7)) l9)) (Qae _)) hR) rfl kj kj (isz (n:=4) kj kj))) <| Qan (.agg (numA (s7))) 66 #[.agg (numA (s6)),.agg (numA (k))] kj kj (fun W=>kj) (fun W hR=>c7 W) <| Qb5 (numA (0)) 49 kj (qR _) kj (fun W=>kj) <| Qa2 (hF _ kj fun W9 e9=>?_)
  simp only [fins,up,List.take_succ_cons,List.take_zero,List.drop_succ_cons,List.drop_zero,List.nil_append,List.cons_append]
  intro g11 l11 r11_9 n11
  have b11:=qT x8.size l11
  clear hF
  refine Qai g11 _ (numA (s7)) 49 r11_9 rfl kj (Qaf 49 _ _ g11 49 _ _ r11_9 rfl kj kj (isz (n:=4) kj kj) (eqsz (n:=4) kj kj) kj) fun W10 p10 r11_10=>sgN hK10 <| sgC fun K12 hK12=>Qag (.agg (numA (s7))) 44 rfl kj (Qac 49 _ g11 49 _ _ r11_10 rfl kj kj (isz (n:=4) kj kj)) <| Qag (.agg (numA (s7))) 45 rfl kj (Qac 49 _ g11 49 _ _ r11_10 rfl kj kj (isz (n:=4) kj kj)) <| Qap (.agg (numA (s8))) 68 #[.agg (numA (s7)),.agg (numA (s7))] 46 rfl kj kj (c8 _) fun W11 e11=>?_
  have r11_11:=(Qaa r11_10 e11)
  refine Qai g11 _ (numA (s8)) 49 r11_11 rfl kj (Qaf 49 _ _ g11 49 _ _ r11_11 rfl kj kj (isz (n:=4) kj kj) (eqsz (n:=4) kj kj) kj) fun W12 p12 r11_12=>sgN hK12 <| sgC fun K13 hK13=>sg 1 kj <| Qag (.agg (numA (c))) 48 rfl kj (Qaw 49 _ g2 8 78 _ _ _ (Puts.row p12 (Qaa (Puts.row p10 (Qaa r2_8 e9) (Qab r2_8 l11)) e11) (Qab r2_8 l11)) rfl kj (QaH [numA (a),numA (b)] [numA (c)] [numA (d)] 8 kj) kj (isz (n:=4) kj kj)) <| sg 1 kj <| Qag (.agg (numA (g))) 50 rfl kj (Qaw 49 _ g3 8 78 _ _ _ (Puts.row p12 (Qaa (Puts.row p10 (Qaa r3_8 e9) (Qab r3_8 l11)) e11) (Qab r3_8 l11)) rfl kj (QaH [numA (e),numA (f)] [numA (g)] [numA (h)] 8 kj) kj (isz (n:=4) kj kj)) <| Qap (.agg (numA (s9))) 66 #[.agg (numA (c)),.agg (numA (g))] 51 rfl kj kj (c9 _) fun W13 e13=>?_
  have x13:=Ext.tr (Puts.ext p12 (Ext.tr (Puts.ext p10 (Ext.tr x8 e9) b11) e11) b11) e13
  refine Qah (numA (0)) 49 10 rfl kj kj fun g14 W14 l14 e14 r14_14=>?_
  have b14:=qT x13.size l14
  refine Qai g14 _ (numA (s9)) 49 r14_14 rfl kj (Qaf 49 _ _ g14 49 _ _ r14_14 rfl kj kj (isz (n:=4) kj kj) (eqsz (n:=4) kj kj) kj) fun W15 p15 r14_15=>sgN hK13 <| sgC fun K15 hK15=>Qag (.agg (numA (s9))) 52 rfl kj (Qac 49 _ g14 49 _ _ r14_15 rfl kj kj (isz (n:=4) kj kj)) <| Qag (.agg (numA (s9))) 53 rfl kj (Qac 49 _ g14 49 _ _ r14_15 rfl kj kj (isz (n:=4) kj kj)) <| Qap (.agg (numA (s10))) 68 #[.agg (numA (s9)),.agg (numA (s9))] 54 rfl kj kj (c10 _) fun W16 e16=>?_
  have r14_16:=(Qaa r14_15 e16)
  refine Qai g14 _ (numA (s10)) 49 r14_16 rfl kj (Qaf 49 _ _ g14 49 _ _ r14_16 rfl kj kj (isz (n:=4) kj kj) (eqsz (n:=4) kj kj) kj) fun W17 p17 r14_17=>?_
  have x17:=Puts.ext p17 (Ext.tr (Puts.ext p15 (Ext.tr x13 e14) b14) e16) b14
  refine sgN hK15 <| wp_seq_k fun K16 hK16=>QaX 16 [⟨none,[(8,none)]⟩,⟨none,[(7,none)]⟩,⟨none,[(55,some 0),(56,some 1)]⟩,⟨none,[(10,none)]⟩,⟨none,[(9,none)]⟩,⟨none,[(58,some 3),(59,some 4)]⟩,⟨none,[(10,none)]⟩,⟨none,[(9,none)]⟩,⟨none,[(61,some 6),(62,some 7)]⟩,⟨none,[(8,none)]⟩,⟨none,[(7,none)]⟩,⟨none,[(64,some 9),(65,some 10)]⟩,⟨none,[]⟩,⟨none,[]⟩,⟨none,[]⟩,⟨none,[]⟩] [12,13,14,15] kj kj kj fun F hF=>?_
  have r9_13:=(Qaa (Puts.row p12 (Qaa (Puts.row p10 (Qaa r9_8 e9) (Qab r9_8 l11)) e11) (Qab r9_8 l11)) e13)
  have r9_17:=(Puts.row p17 (Qaa (Puts.row p15 (Qaa (Qaa (Puts.row p12 (Qaa (Puts.row p10 (Qaa r9_8 e9) (Qab r9_8 l11)) e11) (Qab r9_8 l11)) e13) e14) (Qab r9_13 l14)) e16) (Qab r9_13 l14))
  refine Qal (.agg (numA (s5))) kj kj (fun W hR=>(Qac 49 _ g9 49 _ _ (Qaa (Qaa r9_17 (Qae _)) hR) rfl kj kj (isz (n:=4) kj kj))) ?_
  have r7_8:=(Puts.row p8 (Qaa r7_6 e7) (Qab r7_6 l9))
  have r7_13:=(Qaa (Puts.row p12 (Qaa (Puts.row p10 (Qaa r7_8 e9) (Qab r7_8 l11)) e11) (Qab r7_8 l11)) e13)
  have r7_17:=(Puts.row p17 (Qaa (Puts.row p15 (Qaa (Qaa (Puts.row p12 (Qaa (Puts.row p10 (Qaa (Puts.row p8 (Qaa r7_6 e7) (Qab r7_6 l9)) e9) (Qab r7_8 l11)) e11) (Qab r7_8 l11)) e13) e14) (Qab r7_13 l14)) e16) (Qab r7_13 l14))
  refine Qal (.agg (numA (s2))) kj kj (fun W hR=>(Qac 49 _ g7 49 _ _ (Qaa (Qaa r7_17 (Qae _)) hR) rfl kj kj (isz (n:=4) kj kj))) <| Qan (.agg (numA (s11))) 69 #[.agg (numA (s5)),.agg (numA (s2))] kj kj (fun W=>kj) (fun W hR=>c11 W) <| Qal (.agg (numA (s10))) kj kj (fun W hR=>(Qac 49 _ g14 49 _ _ (Qaa (Qaa r14_17 (Qae _)) hR) rfl kj kj (isz (n:=4) kj kj))) ?_
  have r11_13:=(Qaa r11_12 e13)
  have r11_17:=(Puts.row p17 (Qaa (Puts.row p15 (Qaa (Qaa r11_12 e13) e14) (Qab r11_13 l14)) e16) (Qab r11_13 l14))
  refine Qal (.agg (numA (s8))) kj kj (fun W hR=>(Qac 49 _ g11 49 _ _ (Qaa (Qaa r11_17 (Qae _)) hR) rfl kj kj (isz (n:=4) kj kj))) <| Qan (.agg (numA (s12))) 69 #[.agg (numA (s10)),.agg (numA (s8))] kj kj (fun W=>kj) (fun W hR=>c12 W) <| Qal (.agg (numA (s10))) kj kj (fun W hR=>(Qac 49 _ g14 49 _ _ (Qaa (Qaa r14_17 (Qae _)) hR) rfl kj kj (isz (n:=4) kj kj))) <| Qal (.agg (numA (s8))) kj kj (fun W hR=>(Qac 49 _ g11 49 _ _ (Qaa (Qaa r11_17 (Qae _)) hR) rfl kj kj (isz (n:=4) kj kj))) <| Qan (.agg (numA (s13))) 68 #[.agg (numA (s10)),.agg (numA (s8))] kj kj (fun W=>kj) (fun W hR=>c13 W) <| Qal (.agg (numA (s5))) kj kj (fun W hR=>(Qac 49 _ g9 49 _ _ (Qaa (Qaa r9_17 (Qae _)) hR) rfl kj kj (isz (n:=4) kj kj))) <| Qal (.agg (numA (s2))) kj kj (fun W hR=>(Qac 49 _ g7 49 _ _ (Qaa (Qaa r7_17 (Qae _)) hR) rfl kj kj (isz (n:=4) kj kj))) <| Qan (.agg (numA (s14))) 68 #[.agg (numA (s5)),.agg (numA (s2))] kj kj (fun W=>kj) (fun W hR=>c14 W) <| Qb5 (numA (0)) 49 kj (qR _) kj (fun W=>kj) <| Qb5 (numA (0)) 49 kj (qR _) kj (fun W=>kj) ?_
  refine Qb5 (numA (0)) 49 kj (qR _) kj (fun W=>kj) <| Qb5 (numA (0)) 49 kj (qR _) kj (fun W=>kj) <| Qa2 (hF _ kj fun W18 e18=>?_)
  simp only [fins,up,List.take_succ_cons,List.take_zero,List.drop_succ_cons,List.drop_zero,List.nil_append,List.cons_append]
  intro g17 l17 r17_18 n17 g18 l18 r18_18 n18 g19 l19 r19_18 n19 g20 l20 r20_18 n20
  have n18_17:g18≠g17:=n18 _ (by simp)
  have n19_17:g19≠g17:=n19 _ (by simp)
  have n19_18:g19≠g18:=n19 _ (by simp)
  have n20_17:g20≠g17:=n20 _ (by simp)
  have n20_18:g20≠g18:=n20 _ (by simp)
  have n20_19:g20≠g19:=n20 _ (by simp)
  clear hF
  refine Qai g17 _ (numA (s11)) 49 r17_18 rfl kj (Qaf 49 _ _ g17 49 _ _ r17_18 rfl kj kj (isz (n:=4) kj kj) (eqsz (n:=4) kj kj) kj) fun W19 p19 r17_19=>?_
  have r18_19:=(Puts.row p19 r18_18 n18_17)
  refine Qai g18 _ (numA (s12)) 49 r18_19 rfl kj (Qaf 49 _ _ g18 49 _ _ r18_19 rfl kj kj (isz (n:=4) kj kj) (eqsz (n:=4) kj kj) kj) fun W20 p20 r18_20=>?_
  have r19_20:=(Puts.row p20 (Puts.row p19 r19_18 n19_17) n19_18)
  refine Qai g19 _ (numA (s13)) 49 r19_20 rfl kj (Qaf 49 _ _ g19 49 _ _ r19_20 rfl kj kj (isz (n:=4) kj kj) (eqsz (n:=4) kj kj) kj) fun W21 p21 r19_21=>?_
  have r20_21:=(Puts.row p21 (Puts.row p20 (Puts.row p19 r20_18 n20_17) n20_18) n20_19)
  refine Qai g20 _ (numA (s14)) 49 r20_21 rfl kj (Qaf 49 _ _ g20 49 _ _ r20_21 rfl kj kj (isz (n:=4) kj kj) (eqsz (n:=4) kj kj) kj) fun W22 p22 r20_22=>sgN hK16 <| wp_seq_k fun K21 hK21=>QaC 13 [⟨none,[(11,none)]⟩,⟨none,[(12,none)]⟩,⟨none,[(67,some 0),(68,some 1)]⟩,⟨none,[(13,none)]⟩,⟨none,[(14,none)]⟩,⟨none,[(70,some 3),(71,some 4)]⟩,⟨none,[(12,none)]⟩,⟨none,[(13,none)]⟩,⟨none,[(73,some 6),(74,some 7)]⟩,⟨none,[(11,none)]⟩,⟨none,[(14,none)]⟩,⟨none,[(76,some 9),(77,some 10)]⟩,⟨none,[(69,some 2),(72,some 5),(75,some 8),(78,some 11)]⟩] kj kj fun F hF=>?_
  have r17_22:=(Puts.row p22 (Puts.row p21 (Puts.row p20 r17_19 (Ne.symm n18_17)) (Ne.symm n19_17)) (Ne.symm n20_17))
  refine Qal (.agg (numA (s11))) kj kj (fun W hR=>(Qac 49 _ g17 49 _ _ (Qaa (Qaa r17_22 (Qae _)) hR) rfl kj kj (isz (n:=4) kj kj))) ?_
  have r18_22:=(Puts.row p22 (Puts.row p21 r18_20 (Ne.symm n19_18)) (Ne.symm n20_18))
  refine Qal (.agg (numA (s12))) kj kj (fun W hR=>(Qac 49 _ g18 49 _ _ (Qaa (Qaa r18_22 (Qae _)) hR) rfl kj kj (isz (n:=4) kj kj))) <| Qan (.agg (numA (s15))) 66 #[.agg (numA (s11)),.agg (numA (s12))] kj kj (fun W=>kj) (fun W hR=>c15 W) ?_
  have r19_22:=(Puts.row p22 r19_21 (Ne.symm n20_19))
  refine Qal (.agg (numA (s13))) kj kj (fun W hR=>(Qac 49 _ g19 49 _ _ (Qaa (Qaa r19_22 (Qae _)) hR) rfl kj kj (isz (n:=4) kj kj))) <| Qal (.agg (numA (s14))) kj kj (fun W hR=>(Qac 49 _ g20 49 _ _ (Qaa (Qaa r20_22 (Qae _)) hR) rfl kj kj (isz (n:=4) kj kj))) <| Qan (.agg (numA (s16))) 66 #[.agg (numA (s13)),.agg (numA (s14))] kj kj (fun W=>kj) (fun W hR=>c16 W) <| Qal (.agg (numA (s12))) kj kj (fun W hR=>(Qac 49 _ g18 49 _ _ (Qaa (Qaa r18_22 (Qae _)) hR) rfl kj kj (isz (n:=4) kj kj))) <| Qal (.agg (numA (s13))) kj kj (fun W hR=>(Qac 49 _ g19 49 _ _ (Qaa (Qaa r19_22 (Qae _)) hR) rfl kj kj (isz (n:=4) kj kj))) <| Qan (.agg (numA (s17))) 66 #[.agg (numA (s12)),.agg (numA (s13))] kj kj (fun W=>kj) (fun W hR=>c17 W) <| Qal (.agg (numA (s11))) kj kj (fun W hR=>(Qac 49 _ g17 49 _ _ (Qaa (Qaa r17_22 (Qae _)) hR) rfl kj kj (isz (n:=4) kj kj))) <| Qal (.agg (numA (s14))) kj kj (fun W hR=>(Qac 49 _ g20 49 _ _ (Qaa (Qaa r20_22 (Qae _)) hR) rfl kj kj (isz (n:=4) kj kj))) <| Qan (.agg (numA (s18))) 66 #[.agg (numA (s11)),.agg (numA (s14))] kj kj (fun W=>kj) (fun W hR=>c18 W) <| Qay (.agg (cat [numA (s15),numA (s16),numA (s17),numA (s18)])) kj kj (fun W=>kj) ?_
  refine Qa2 (hF _ kj fun W23 e23=>?_)
  simp only [ups,up,Kn.val,List.take_succ_cons,List.take_zero,List.drop_succ_cons,List.drop_zero,List.nil_append,List.cons_append]
  clear hF
  have r5_6:=(Puts.row p6 (Qaa r5_4 e5) (Qab r5_4 l7))
  have r5_8:=(Puts.row p8 (Qaa r5_6 e7) (Qab r5_6 l9))
  have r5_13:=(Qaa (Puts.row p12 (Qaa (Puts.row p10 (Qaa r5_8 e9) (Qab r5_8 l11)) e11) (Qab r5_8 l11)) e13)
  have r5_17:=(Puts.row p17 (Qaa (Puts.row p15 (Qaa r5_13 e14) (Qab r5_13 l14)) e16) (Qab r5_13 l14))
  have r5_23:=(Qaa (Puts.row p22 (Puts.row p21 (Puts.row p20 (Puts.row p19 (Qaa (Puts.row p17 (Qaa (Puts.row p15 (Qaa (Qaa (Puts.row p12 (Qaa (Puts.row p10 (Qaa (Puts.row p8 (Qaa (Puts.row p6 (Qaa r5_4 e5) (Qab r5_4 l7)) e7) (Qab r5_6 l9)) e9) (Qab r5_8 l11)) e11) (Qab r5_8 l11)) e13) e14) (Qab r5_13 l14)) e16) (Qab r5_13 l14)) e18) (Qab r5_17 l17)) (Qab r5_17 l18)) (Qab r5_17 l19)) (Qab r5_17 l20)) e23)
  refine Qai g5 _ (cat [numA (s15),numA (s16),numA (s17),numA (s18)]) 78 r5_23 rfl kj (Qaf 78 _ _ g5 78 _ _ r5_23 rfl kj kj (isz (n:=16) kj kj) (eqsz (n:=16) kj kj) kj) fun W24 p24 r5_24=>sgN hK21 <| wp_ret ?_
  exact (show bodyPost _ _ _ .ret _ _ from ret1 (.agg (cat [numA (s15),numA (s16),numA (s17),numA (s18)])) rfl (Qa8 g5 78 _ r5_24 kj kj (isz (n:=16) kj kj)) ⟨rfl,(Puts.ext p24 (Ext.tr (Puts.ext p22 (Puts.ext p21 (Puts.ext p20 (Puts.ext p19 (Ext.tr x17 e18) (qT x17.size l17)) (qT x17.size l18)) (qT x17.size l19)) (qT x17.size l20)) e23) (qT x3.size l5))⟩)
theorem QpI (a b c d e f g h k:Int) (h_a:isN a) (h_b:isN b) (h_c:isN c) (h_d:isN d) (h_e:isN e) (h_f:isN f) (h_g:isN g) (h_h:isN h) (h_k:isN k) (w:World):Calls Tryd.prog 47 #[.agg (cat [numA (a),numA (b),numA (c),numA (d)]),.agg (cat [numA (e),numA (f),numA (g),numA (h)]),.agg (numA (k))] w (Ret w (.agg (cat [numA ((QcM a b c d e f g h k).1),numA ((QcM a b c d e f g h k).2.1),numA ((QcM a b c d e f g h k).2.2.1),numA ((QcM a b c d e f g h k).2.2.2)]))) :=
  Qkw a b c d e f g h k h_a h_b h_c h_d h_e h_f h_g h_h h_k _ _ _ _ _ _ _ _ _ _ _ _ _ _ _ _ _ _ _ (sub _ _ h_b h_a) (sub _ _ h_f h_e) (mul _ _ (isN_mod _) (isN_mod _)) (add _ _ h_b h_a) (add _ _ h_f h_e) (mul _ _ (isN_mod _) (isN_mod _)) (mul _ _ h_d h_h) (mul _ _ (isN_mod _) h_k) (add _ _ (isN_mod _) (isN_mod _)) (mul _ _ h_c h_g) (add _ _ (isN_mod _) (isN_mod _)) (sub _ _ (isN_mod _) (isN_mod _)) (sub _ _ (isN_mod _) (isN_mod _)) (add _ _ (isN_mod _) (isN_mod _)) (add _ _ (isN_mod _) (isN_mod _)) (mul _ _ (isN_mod _) (isN_mod _)) (mul _ _ (isN_mod _) (isN_mod _)) (mul _ _ (isN_mod _) (isN_mod _)) (mul _ _ (isN_mod _) (isN_mod _)) w
theorem Qey (a b c d e f g h k:Int) (h_a:isN a) (h_b:isN b) (h_c:isN c) (h_d:isN d) (h_e:isN e) (h_f:isN f) (h_g:isN g) (h_h:isN h) (h_k:isN k):isN (QcM a b c d e f g h k).1∧isN (QcM a b c d e f g h k).2.1∧isN (QcM a b c d e f g h k).2.2.1∧isN (QcM a b c d e f g h k).2.2.2:=⟨(isN_mod _),(isN_mod _),(isN_mod _),(isN_mod _)⟩
def Qe9 (a b c d:Int):Int×Int :=
  let s0:=invN c
  let s1:=a*s0%p
  let s2:=b*s0%p
  let s3:=(patF s1 s2).1
  let s4:=(patF s1 s2).2
  (s3,s4)
theorem QkS (a b c d:Int) (h_a:isN a) (h_b:isN b) (h_c:isN c) (h_d:isN d) (s0 s1 s2 s3 s4:Int)
    (c0:∀ W,Calls Tryd.prog 70 #[.agg (numA (c))] W (Ret W (.agg (numA (s0)))))
    (c1:∀ W,Calls Tryd.prog 66 #[.agg (numA (a)),.agg (numA (s0))] W (Ret W (.agg (numA (s1)))))
    (c2:∀ W,Calls Tryd.prog 66 #[.agg (numA (b)),.agg (numA (s0))] W (Ret W (.agg (numA (s2)))))
    (c3:∀ W,Calls Tryd.prog 43 #[.agg (numA (s1)),.agg (numA (s2))] W (Ret W (.agg (cat [numA (s3),numA (s4)])))) (w:World) :
    Calls Tryd.prog 48 #[.agg (cat [numA (a),numA (b),numA (c),numA (d)])] w (Ret w (.agg (cat [numA (s3),numA (s4)]))):=by
  refine enter 16 [(0,.agg (cat [numA (a),numA (b),numA (c),numA (d)]))] Tryd.func48 rfl rfl kj rfl <| sgC fun K1 hK1=>Qah (cat [numA (a),numA (b),numA (c),numA (d)]) 78 1 rfl kj kj fun g2 W1 l2 e1 r2_1=>?_
  have x1:=Ext.tr (Rely.Ext.refl w) e1
  have b2:=qT (Rely.Ext.refl w).size l2
  refine Qah (cat [numA (0),numA (0)]) 51 2 rfl kj kj fun g3 W2 l3 e2 r3_2=>sgN hK1 <| sgC fun K4 hK4=>sg 1 kj ?_
  have r2_2:=(Qaa r2_1 e2)
  refine Qag (.agg (numA (c))) 5 rfl kj (Qaw 49 _ g2 8 78 _ _ _ r2_2 rfl kj (QaH [numA (a),numA (b)] [numA (c)] [numA (d)] 8 kj) kj (isz (n:=4) kj kj)) <| Qap (.agg (numA (s0))) 70 #[.agg (numA (c))] 6 rfl kj kj (c0 _) fun W3 e3=>?_
  have x3:=Ext.tr (Ext.tr x1 e2) e3
  refine Qah (numA (0)) 49 3 rfl kj kj fun g5 W4 l5 e4 r5_4=>Qai g5 _ (numA (s0)) 49 r5_4 rfl kj (Qaf 49 _ _ g5 49 _ _ r5_4 rfl kj kj (isz (n:=4) kj kj) (eqsz (n:=4) kj kj) kj) fun W5 p5 r5_5=>sgN hK4 <| wp_seq_k fun K6 hK6=>QaC 9 [⟨none,[(1,none)]⟩,⟨none,[(7,some 0)]⟩,⟨none,[(3,none)]⟩,⟨none,[(8,some 1),(9,some 2)]⟩,⟨none,[(1,none)]⟩,⟨none,[(11,some 4)]⟩,⟨none,[(3,none)]⟩,⟨none,[(12,some 5),(13,some 6)]⟩,⟨none,[(10,some 3),(14,some 7)]⟩] kj kj fun F hF=>Qay (.pointer (some ⟨g2,0,none⟩)) kj kj (fun W=>kj) ?_
  have r2_5:=(Puts.row p5 (Qaa (Qaa r2_2 e3) e4) (Qab (Qaa r2_2 e3) l5))
  refine Qal (.agg (numA (a))) kj kj (fun W hR=>(Qaw 49 _ g2 0 78 _ _ _ (Qaa (Qaa r2_5 (Qae _)) hR) rfl kj (QaH [] [numA (a)] [numA (b),numA (c),numA (d)] 0 kj) kj (isz (n:=4) kj kj))) <| Qal (.agg (numA (s0))) kj kj (fun W hR=>(Qac 49 _ g5 49 _ _ (Qaa (Qaa r5_5 (Qae _)) hR) rfl kj kj (isz (n:=4) kj kj))) <| Qan (.agg (numA (s1))) 66 #[.agg (numA (a)),.agg (numA (s0))] kj kj (fun W=>kj) (fun W hR=>c1 W) <| Qay (.pointer (some ⟨g2,4,none⟩)) kj kj (fun W=>kj) <| Qal (.agg (numA (b))) kj kj (fun W hR=>(Qaw 49 _ g2 4 78 _ _ _ (Qaa (Qaa r2_5 (Qae _)) hR) rfl kj (QaH [numA (a)] [numA (b)] [numA (c),numA (d)] 4 kj) kj (isz (n:=4) kj kj))) <| Qal (.agg (numA (s0))) kj kj (fun W hR=>(Qac 49 _ g5 49 _ _ (Qaa (Qaa r5_5 (Qae _)) hR) rfl kj kj (isz (n:=4) kj kj))) <| Qan (.agg (numA (s2))) 66 #[.agg (numA (b)),.agg (numA (s0))] kj kj (fun W=>kj) (fun W hR=>c2 W) <| Qan (.agg (cat [numA (s3),numA (s4)])) 43 #[.agg (numA (s1)),.agg (numA (s2))] kj kj (fun W=>kj) (fun W hR=>c3 W) <| Qa2 (hF _ kj fun W6 e6=>?_)
  simp only [ups,up,Kn.val,List.take_succ_cons,List.take_zero,List.drop_succ_cons,List.drop_zero,List.nil_append,List.cons_append]
  clear hF
  have r3_6:=(Qaa (Puts.row p5 (Qaa (Qaa r3_2 e3) e4) (Qab (Qaa r3_2 e3) l5)) e6)
  refine Qai g3 _ (cat [numA (s3),numA (s4)]) 51 r3_6 rfl kj (Qaf 51 _ _ g3 51 _ _ r3_6 rfl kj kj (isz (n:=8) kj kj) (eqsz (n:=8) kj kj) kj) fun W7 p7 r3_7=>sgN hK6 <| wp_ret ?_
  exact (show bodyPost _ _ _ .ret _ _ from ret1 (.agg (cat [numA (s3),numA (s4)])) rfl (Qa8 g3 51 _ r3_7 kj kj (isz (n:=8) kj kj)) ⟨rfl,(Puts.ext p7 (Ext.tr (Puts.ext p5 (Ext.tr x3 e4) (qT x3.size l5)) e6) (qT x1.size l3))⟩)
theorem Qqj (a b c d:Int) (h_a:isN a) (h_b:isN b) (h_c:isN c) (h_d:isN d) (w:World):Calls Tryd.prog 48 #[.agg (cat [numA (a),numA (b),numA (c),numA (d)])] w (Ret w (.agg (cat [numA ((Qe9 a b c d).1),numA ((Qe9 a b c d).2)]))) :=
  QkS a b c d h_a h_b h_c h_d _ _ _ _ _ (inv _ h_c) (mul _ _ h_a (QcT _)) (mul _ _ h_b (QcT _)) (patC _ _ (isN_mod _) (isN_mod _)) w
def QoH (x l y m:Int):Int×Int :=
  let s0:=(QcK x l).1
  let s1:=(QcK x l).2.1
  let s2:=(QcK x l).2.2.1
  let s3:=(QcK x l).2.2.2
  let s4:=(QcK y m).1
  let s5:=(QcK y m).2.1
  let s6:=(QcK y m).2.2.1
  let s7:=(QcK y m).2.2.2
  let s8:=(QcM s0 s1 s2 s3 s4 s5 s6 s7 dN).1
  let s9:=(QcM s0 s1 s2 s3 s4 s5 s6 s7 dN).2.1
  let s10:=(QcM s0 s1 s2 s3 s4 s5 s6 s7 dN).2.2.1
  let s11:=(QcM s0 s1 s2 s3 s4 s5 s6 s7 dN).2.2.2
  let s12:=(Qe9 s8 s9 s10 s11).1
  let s13:=(Qe9 s8 s9 s10 s11).2
  (s12,s13)
theorem QkV (x l y m:Int) (h_x:isN x) (h_l:isN l) (h_y:isN y) (h_m:isN m) (s0 s1 s2 s3 s4 s5 s6 s7 s8 s9 s10 s11 s12 s13:Int)
    (c0:∀ W,Calls Tryd.prog 45 #[.agg (cat [numA (x),numA (l)])] W (Ret W (.agg (cat [numA (s0),numA (s1),numA (s2),numA (s3)]))))
    (c1:∀ W,Calls Tryd.prog 45 #[.agg (cat [numA (y),numA (m)])] W (Ret W (.agg (cat [numA (s4),numA (s5),numA (s6),numA (s7)]))))
    (c2:∀ W,Calls Tryd.prog 47 #[.agg (cat [numA (s0),numA (s1),numA (s2),numA (s3)]),.agg (cat [numA (s4),numA (s5),numA (s6),numA (s7)]),.agg (numA (dN))] W (Ret W (.agg (cat [numA (s8),numA (s9),numA (s10),numA (s11)]))))
    (c3:∀ W,Calls Tryd.prog 48 #[.agg (cat [numA (s8),numA (s9),numA (s10),numA (s11)])] W (Ret W (.agg (cat [numA (s12),numA (s13)])))) (w:World) (tB:TypeId) (hB:w.heap[2]? = some (.cells (ints .u8 Qb6) tB)) :
    Calls Tryd.prog 35 #[.agg (cat [numA (x),numA (l)]),.agg (cat [numA (y),numA (m)])] w (Ret w (.agg (cat [numA (s12),numA (s13)]))):=by
  refine enter 13 [(0,.agg (cat [numA (x),numA (l)])),(1,.agg (cat [numA (y),numA (m)]))] Tryd.func35 rfl rfl kj rfl <| sgC fun K2 hK2=>Qah (cat [numA (x),numA (l)]) 51 2 rfl kj kj fun g3 W1 l3 e1 r3_1=>?_
  have x1:=Ext.tr (Rely.Ext.refl w) e1
  have b3:=qT (Rely.Ext.refl w).size l3
  refine Qah (cat [numA (y),numA (m)]) 51 3 rfl kj kj fun g4 W2 l4 e2 r4_2=>?_
  have x2:=Ext.tr x1 e2
  have b4:=qT x1.size l4
  refine Qah (cat [numA (0),numA (0)]) 51 4 rfl kj kj fun g5 W3 l5 e3 r5_3=>sgN hK2 <| wp_seq_k fun K6 hK6=>QaC 8 [⟨none,[(2,none)]⟩,⟨none,[(5,some 0)]⟩,⟨none,[(3,none)]⟩,⟨none,[(7,some 2)]⟩,⟨none,[]⟩,⟨none,[(9,some 4)]⟩,⟨none,[(6,some 1),(8,some 3),(10,some 5)]⟩,⟨none,[(11,some 6)]⟩] kj kj fun F hF=>Qal (.agg (cat [numA (x),numA (l)])) kj kj (fun W hR=>(Qac 51 _ g3 51 _ _ (Qaa (Qaa (Qaa (Qaa r3_1 e2) e3) (Qae _)) hR) rfl kj kj (isz (n:=8) kj kj))) <| Qan (.agg (cat [numA (s0),numA (s1),numA (s2),numA (s3)])) 45 #[.agg (cat [numA (x),numA (l)])] kj kj (fun W=>kj) (fun W hR=>c0 W) <| Qal (.agg (cat [numA (y),numA (m)])) kj kj (fun W hR=>(Qac 51 _ g4 51 _ _ (Qaa (Qaa (Qaa r4_2 e3) (Qae _)) hR) rfl kj kj (isz (n:=8) kj kj))) <| Qan (.agg (cat [numA (s4),numA (s5),numA (s6),numA (s7)])) 45 #[.agg (cat [numA (y),numA (m)])] kj kj (fun W=>kj) (fun W hR=>c1 W) <| Qal (.agg (ints .u8 (Qb6))) kj kj (fun W hR=>(Qac 23 _ 2 tB _ _ (Qaa (Qaa (Qaa (Qaa (Qaa hB e1) e2) e3) (Qae _)) hR) rfl kj kj (isz (n:=32) kj ((Qad _ _).trans (by decide))))) <| Qan (.agg (numA (dN))) 44 #[.agg (ints .u8 (Qb6))] kj kj (fun W=>kj) (fun W hR=>QfO W) ?_
  refine Qan (.agg (cat [numA (s8),numA (s9),numA (s10),numA (s11)])) 47 #[.agg (cat [numA (s0),numA (s1),numA (s2),numA (s3)]),.agg (cat [numA (s4),numA (s5),numA (s6),numA (s7)]),.agg (numA (dN))] kj kj (fun W=>kj) (fun W hR=>c2 W) <| Qan (.agg (cat [numA (s12),numA (s13)])) 48 #[.agg (cat [numA (s8),numA (s9),numA (s10),numA (s11)])] kj kj (fun W=>kj) (fun W hR=>c3 W) <| Qa2 (hF _ kj fun W4 e4=>?_)
  simp only [ups,up,Kn.val,List.take_succ_cons,List.take_zero,List.drop_succ_cons,List.drop_zero,List.nil_append,List.cons_append]
  clear hF
  have r5_4:=(Qaa r5_3 e4)
  refine Qai g5 _ (cat [numA (s12),numA (s13)]) 51 r5_4 rfl kj (Qaf 51 _ _ g5 51 _ _ r5_4 rfl kj kj (isz (n:=8) kj kj) (eqsz (n:=8) kj kj) kj) fun W5 p5 r5_5=>sgN hK6 <| wp_ret ?_
  exact (show bodyPost _ _ _ .ret _ _ from ret1 (.agg (cat [numA (s12),numA (s13)])) rfl (Qa8 g5 51 _ r5_5 kj kj (isz (n:=8) kj kj)) ⟨rfl,(Puts.ext p5 (Ext.tr (Ext.tr x2 e3) e4) (qT x2.size l5))⟩)
theorem Qrg (x l y m:Int) (h_x:isN x) (h_l:isN l) (h_y:isN y) (h_m:isN m) (w:World) (tB:TypeId) (hB:w.heap[2]? = some (.cells (ints .u8 Qb6) tB)):Calls Tryd.prog 35 #[.agg (cat [numA (x),numA (l)]),.agg (cat [numA (y),numA (m)])] w (Ret w (.agg (cat [numA ((QoH x l y m).1),numA ((QoH x l y m).2)]))) :=
  QkV x l y m h_x h_l h_y h_m _ _ _ _ _ _ _ _ _ _ _ _ _ _ (QiZ _ _ h_x h_l) (QiZ _ _ h_y h_m) (QpI _ _ _ _ _ _ _ _ _ (QaF _ _ h_x h_l).1 (QaF _ _ h_x h_l).2.1 (QaF _ _ h_x h_l).2.2.1 (QaF _ _ h_x h_l).2.2.2 (QaF _ _ h_y h_m).1 (QaF _ _ h_y h_m).2.1 (QaF _ _ h_y h_m).2.2.1 (QaF _ _ h_y h_m).2.2.2 Qej) (Qqj _ _ _ _ (Qey _ _ _ _ _ _ _ _ _ (QaF _ _ h_x h_l).1 (QaF _ _ h_x h_l).2.1 (QaF _ _ h_x h_l).2.2.1 (QaF _ _ h_x h_l).2.2.2 (QaF _ _ h_y h_m).1 (QaF _ _ h_y h_m).2.1 (QaF _ _ h_y h_m).2.2.1 (QaF _ _ h_y h_m).2.2.2 Qej).1 (Qey _ _ _ _ _ _ _ _ _ (QaF _ _ h_x h_l).1 (QaF _ _ h_x h_l).2.1 (QaF _ _ h_x h_l).2.2.1 (QaF _ _ h_x h_l).2.2.2 (QaF _ _ h_y h_m).1 (QaF _ _ h_y h_m).2.1 (QaF _ _ h_y h_m).2.2.1 (QaF _ _ h_y h_m).2.2.2 Qej).2.1 (Qey _ _ _ _ _ _ _ _ _ (QaF _ _ h_x h_l).1 (QaF _ _ h_x h_l).2.1 (QaF _ _ h_x h_l).2.2.1 (QaF _ _ h_x h_l).2.2.2 (QaF _ _ h_y h_m).1 (QaF _ _ h_y h_m).2.1 (QaF _ _ h_y h_m).2.2.1 (QaF _ _ h_y h_m).2.2.2 Qej).2.2.1 (Qey _ _ _ _ _ _ _ _ _ (QaF _ _ h_x h_l).1 (QaF _ _ h_x h_l).2.1 (QaF _ _ h_x h_l).2.2.1 (QaF _ _ h_x h_l).2.2.2 (QaF _ _ h_y h_m).1 (QaF _ _ h_y h_m).2.1 (QaF _ _ h_y h_m).2.2.1 (QaF _ _ h_y h_m).2.2.2 Qej).2.2.2) w tB hB
def Qqh (x l:Int):Int×Int :=
  let s0:=(QgM x)
  (s0,l)
theorem QkQ (x l:Int) (h_x:isN x) (h_l:isN l) (s0:Int)
    (c0:∀ W,Calls Tryd.prog 72 #[.agg (numA (x))] W (Ret W (.agg (numA (s0))))) (w:World) :
    Calls Tryd.prog 36 #[.agg (cat [numA (x),numA (l)])] w (Ret w (.agg (cat [numA (s0),numA (l)]))):=by
  refine enter 9 [(0,.agg (cat [numA (x),numA (l)]))] Tryd.func36 rfl rfl kj rfl <| sgC fun K1 hK1=>Qah (cat [numA (x),numA (l)]) 51 1 rfl kj kj fun g2 W1 l2 e1 r2_1=>?_
  have x1:=Ext.tr (Rely.Ext.refl w) e1
  have b2:=qT (Rely.Ext.refl w).size l2
  refine Qah (cat [numA (0),numA (0)]) 51 2 rfl kj kj fun g3 W2 l3 e2 r3_2=>sgN hK1 <| wp_seq_k fun K4 hK4=>QaC 6 [⟨none,[(1,none)]⟩,⟨none,[(3,some 0)]⟩,⟨none,[(4,some 1)]⟩,⟨none,[(1,none)]⟩,⟨none,[(6,some 3)]⟩,⟨none,[(5,some 2),(7,some 4)]⟩] kj kj fun F hF=>Qay (.pointer (some ⟨g2,0,none⟩)) kj kj (fun W=>kj) ?_
  have r2_2:=(Qaa r2_1 e2)
  refine Qal (.agg (numA (x))) kj kj (fun W hR=>(Qaw 49 _ g2 0 51 _ _ _ (Qaa (Qaa r2_2 (Qae _)) hR) rfl kj (QaH [] [numA (x)] [numA (l)] 0 kj) kj (isz (n:=4) kj kj))) <| Qan (.agg (numA (s0))) 72 #[.agg (numA (x))] kj kj (fun W=>kj) (fun W hR=>c0 W) <| Qay (.pointer (some ⟨g2,4,none⟩)) kj kj (fun W=>kj) <| Qal (.agg (numA (l))) kj kj (fun W hR=>(Qaw 49 _ g2 4 51 _ _ _ (Qaa (Qaa r2_2 (Qae _)) hR) rfl kj (QaH [numA (x)] [numA (l)] [] 4 kj) kj (isz (n:=4) kj kj))) <| Qay (.agg (cat [numA (s0),numA (l)])) kj kj (fun W=>kj) <| Qa2 (hF _ kj fun W3 e3=>?_)
  simp only [ups,up,Kn.val,List.take_succ_cons,List.take_zero,List.drop_succ_cons,List.drop_zero,List.nil_append,List.cons_append]
  clear hF
  have r3_3:=(Qaa r3_2 e3)
  refine Qai g3 _ (cat [numA (s0),numA (l)]) 51 r3_3 rfl kj (Qaf 51 _ _ g3 51 _ _ r3_3 rfl kj kj (isz (n:=8) kj kj) (eqsz (n:=8) kj kj) kj) fun W4 p4 r3_4=>sgN hK4 <| wp_ret ?_
  exact (show bodyPost _ _ _ .ret _ _ from ret1 (.agg (cat [numA (s0),numA (l)])) rfl (Qa8 g3 51 _ r3_4 kj kj (isz (n:=8) kj kj)) ⟨rfl,(Puts.ext p4 (Ext.tr (Ext.tr x1 e2) e3) (qT x1.size l3))⟩)
theorem Qrf (x l:Int) (h_x:isN x) (h_l:isN l) (w:World):Calls Tryd.prog 36 #[.agg (cat [numA (x),numA (l)])] w (Ret w (.agg (cat [numA ((Qqh x l).1),numA ((Qqh x l).2)]))) :=
  QkQ x l h_x h_l _ (Qqi _ h_x) w
def rnegF (x y z:Int):Int×Int×Int :=
  let s0:=(0-x)%p
  (s0,y,z)
theorem QkF (x y z:Int) (h_x:isN x) (h_y:isN y) (h_z:isN z) (s0:Int)
    (c0:∀ W,Calls Tryd.prog 76 #[.agg (ints .i64 (lims (0))),.agg (ints .i64 (lims (x)))] W (Ret W (.agg (ints .i64 (lims (s0)))))) (w:World) :
    Calls Tryd.prog 40 #[.agg (cat [ints .i64 (lims (x)),ints .i64 (lims (y)),ints .i64 (lims (z))])] w (Ret w (.agg (cat [ints .i64 (lims (s0)),ints .i64 (lims (y)),ints .i64 (lims (z))]))):=by
  refine enter 9 [(0,.agg (cat [ints .i64 (lims (x)),ints .i64 (lims (y)),ints .i64 (lims (z))]))] Tryd.func40 rfl rfl kj rfl <| sgC fun K1 hK1=>Qah (cat [ints .i64 (lims (x)),ints .i64 (lims (y)),ints .i64 (lims (z))]) 60 1 rfl kj kj fun g2 W1 l2 e1 r2_1=>?_
  have x1:=Ext.tr (Rely.Ext.refl w) e1
  refine Qah (cat [ints .i64 (lims (0)),ints .i64 (lims (0)),ints .i64 (lims (0))]) 60 2 rfl kj kj fun g3 W2 l3 e2 r3_2=>sgN hK1 <| sgC fun K4 hK4=>sg 2 kj ?_
  have r2_2:=(Qaa r2_1 e2)
  refine Qag (.agg (ints .i64 (lims (x)))) 5 rfl kj (Qaw 58 _ g2 0 60 _ _ _ r2_2 rfl kj (QaH [] [ints .i64 (lims (x))] [ints .i64 (lims (y)),ints .i64 (lims (z))] 0 kj) kj (isz (n:=16) kj kj)) <| Qap (.agg (ints .i64 (lims (s0)))) 76 #[.agg (ints .i64 (lims (0))),.agg (ints .i64 (lims (x)))] 6 rfl kj kj (c0 _) fun W3 e3=>sg 1 kj ?_
  have r2_3:=(Qaa r2_2 e3)
  refine Qai g2 _ (cat [ints .i64 (lims (s0)),ints .i64 (lims (y)),ints .i64 (lims (z))]) 60 r2_3 rfl kj (QgD 58 _ _ g2 0 60 [] [ints .i64 (lims (x))] [ints .i64 (lims (s0))] [ints .i64 (lims (y)),ints .i64 (lims (z))] r2_3 rfl kj kj (isz (n:=16) kj kj) kj (eqsz (n:=16) kj kj) kj) fun W4 p4 r2_4=>sgN hK4 <| sgC fun K5 hK5=>Qag (.agg (cat [ints .i64 (lims (s0)),ints .i64 (lims (y)),ints .i64 (lims (z))])) 8 rfl kj (Qac 60 _ g2 60 _ _ r2_4 rfl kj kj (isz (n:=48) kj kj)) ?_
  have r3_4:=(Puts.row p4 (Qaa r3_2 e3) (Qas r2_1 l3))
  refine Qai g3 _ (cat [ints .i64 (lims (s0)),ints .i64 (lims (y)),ints .i64 (lims (z))]) 60 r3_4 rfl kj (Qaf 60 _ _ g3 60 _ _ r3_4 rfl kj kj (isz (n:=48) kj kj) (eqsz (n:=48) kj kj) kj) fun W5 p5 r3_5=>sgN hK5 <| wp_ret ?_
  exact (show bodyPost _ _ _ .ret _ _ from ret1 (.agg (cat [ints .i64 (lims (s0)),ints .i64 (lims (y)),ints .i64 (lims (z))])) rfl (Qa8 g3 60 _ r3_5 kj kj (isz (n:=48) kj kj)) ⟨rfl,(Puts.ext p5 (Puts.ext p4 (Ext.tr (Ext.tr x1 e2) e3) (qT (Rely.Ext.refl w).size l2)) (qT x1.size l3))⟩)
theorem rnegC (x y z:Int) (h_x:isN x) (h_y:isN y) (h_z:isN z) (w:World):Calls Tryd.prog 40 #[.agg (cat [ints .i64 (lims (x)),ints .i64 (lims (y)),ints .i64 (lims (z))])] w (Ret w (.agg (cat [ints .i64 (lims ((rnegF x y z).1)),ints .i64 (lims ((rnegF x y z).2.1)),ints .i64 (lims ((rnegF x y z).2.2))]))) :=
  QkF x y z h_x h_y h_z _ (Qki _ _ (num_isN 0) h_x) w
end Go.Proofs.YtdoadngmgmdlbaaDoor.Field
end
section
namespace Go.Proofs.YtdoadngmgmdlbaaDoor.Field
open Go Go.RowKit
open Rely Auto
theorem factor  (w : World):Calls Tryd.prog 74 #[] w (Ret w (.agg (ints .i64 (lims (dN))))):=by
  refine enter 3 [] Tryd.func74 rfl rfl kj rfl <| sgC fun K1 hK1=>Qah (ints .i64 (lims (0))) 58 0 rfl kj kj fun g2 W1 l2 e1 r2_1=>sgN hK1 <| sgC fun K3 hK3=>sg 1 kj <| Qap (.agg (ints .i64 (lims (dN)))) 60 #[.agg (ints .u8 (Qb6))] 2 rfl kj kj (Qpj _) fun W2 e2=>?_
  have r2_2:=(Qaa r2_1 e2)
  refine Qai g2 _ (ints .i64 (lims (dN))) 58 r2_2 rfl kj (Qaf 58 _ _ g2 58 _ _ r2_2 rfl kj kj (isz (n:=16) kj kj) (eqsz (n:=16) kj kj) kj) fun W3 p3 r2_3=>sgN hK3 <| wp_ret ?_
  exact (show bodyPost _ _ _ .ret _ _ from ret1 (.agg (ints .i64 (lims (dN)))) rfl (Qa8 g2 58 _ r2_3 kj kj (isz (n:=16) kj kj)) ⟨rfl,(Puts.ext p3 (Ext.tr (Ext.tr (Rely.Ext.refl w) e1) e2) (qT (Rely.Ext.refl w).size l2))⟩)
theorem nothing  (w : World):Calls Tryd.prog 59 #[] w (Ret w (.agg (cat [ints .i64 (lims (0)),ints .i64 (lims (1)),ints .i64 (lims (1))]))):=by
  refine enter 4 [] Tryd.func59 rfl rfl kj rfl <| sgC fun K1 hK1=>Qah (cat [ints .i64 (lims (0)),ints .i64 (lims (0)),ints .i64 (lims (0))]) 60 0 rfl kj kj fun g2 W1 l2 e1 r2_1=>sgN hK1 <| sgC fun K3 hK3=>sg 3 kj <| Qai g2 _ (cat [ints .i64 (lims (0)),ints .i64 (lims (1)),ints .i64 (lims (1))]) 60 r2_1 rfl kj (Qaf 60 _ _ g2 60 _ _ r2_1 rfl kj kj (isz (n:=48) kj kj) (eqsz (n:=48) kj kj) kj) fun W2 p2 r2_2=>sgN hK3 <| wp_ret ?_
  exact (show bodyPost _ _ _ .ret _ _ from ret1 (.agg (cat [ints .i64 (lims (0)),ints .i64 (lims (1)),ints .i64 (lims (1))])) rfl (Qa8 g2 60 _ r2_2 kj kj (isz (n:=48) kj kj)) ⟨rfl,(Puts.ext p2 (Ext.tr (Rely.Ext.refl w) e1) (qT (Rely.Ext.refl w).size l2))⟩)
def Qed (x y z u v t:Int):Int×Int×Int :=
  let s0:=z*t%p
  let s1:=s0*s0%p
  let s2:=x*u%p
  let s3:=y*v%p
  let s4:=s2*s3%p
  let s5:=dN*s4%p
  let s6:=(s1-s5)%p
  let s7:=(s1+s5)%p
  let s8:=(x+y)%p
  let s9:=(u+v)%p
  let s10:=s8*s9%p
  let s11:=(s10-s2)%p
  let s12:=(s11-s3)%p
  let s13:=s6*s12%p
  let s14:=s0*s13%p
  let s15:=(s3+s2)%p
  let s16:=s7*s15%p
  let s17:=s0*s16%p
  let s18:=s6*s7%p
  (s14,s17,s18)
theorem QkJ (x y z u v t:Int) (h_x:isN x) (h_y:isN y) (h_z:isN z) (h_u:isN u) (h_v:isN v) (h_t:isN t) (s0 s1 s2 s3 s4 s5 s6 s7 s8 s9 s10 s11 s12 s13 s14 s15 s16 s17 s18:Int)
    (c0:∀ W,Calls Tryd.prog 58 #[.agg (ints .i64 (lims (z))),.agg (ints .i64 (lims (t)))] W (Ret W (.agg (ints .i64 (lims (s0))))))
    (c1:∀ W,Calls Tryd.prog 58 #[.agg (ints .i64 (lims (s0))),.agg (ints .i64 (lims (s0)))] W (Ret W (.agg (ints .i64 (lims (s1))))))
    (c2:∀ W,Calls Tryd.prog 58 #[.agg (ints .i64 (lims (x))),.agg (ints .i64 (lims (u)))] W (Ret W (.agg (ints .i64 (lims (s2))))))
    (c3:∀ W,Calls Tryd.prog 58 #[.agg (ints .i64 (lims (y))),.agg (ints .i64 (lims (v)))] W (Ret W (.agg (ints .i64 (lims (s3))))))
    (c4:∀ W,Calls Tryd.prog 58 #[.agg (ints .i64 (lims (s2))),.agg (ints .i64 (lims (s3)))] W (Ret W (.agg (ints .i64 (lims (s4))))))
    (c5:∀ W,Calls Tryd.prog 58 #[.agg (ints .i64 (lims (dN))),.agg (ints .i64 (lims (s4)))] W (Ret W (.agg (ints .i64 (lims (s5))))))
    (c6:∀ W,Calls Tryd.prog 76 #[.agg (ints .i64 (lims (s1))),.agg (ints .i64 (lims (s5)))] W (Ret W (.agg (ints .i64 (lims (s6))))))
    (c7:∀ W,Calls Tryd.prog 73 #[.agg (ints .i64 (lims (s1))),.agg (ints .i64 (lims (s5)))] W (Ret W (.agg (ints .i64 (lims (s7))))))
    (c8:∀ W,Calls Tryd.prog 73 #[.agg (ints .i64 (lims (x))),.agg (ints .i64 (lims (y)))] W (Ret W (.agg (ints .i64 (lims (s8))))))
    (c9:∀ W,Calls Tryd.prog 73 #[.agg (ints .i64 (lims (u))),.agg (ints .i64 (lims (v)))] W (Ret W (.agg (ints .i64 (lims (s9))))))
    (c10:∀ W,Calls Tryd.prog 58 #[.agg (ints .i64 (lims (s8))),.agg (ints .i64 (lims (s9)))] W (Ret W (.agg (ints .i64 (lims (s10))))))
    (c11:∀ W,Calls Tryd.prog 76 #[.agg (ints .i64 (lims (s10))),.agg (ints .i64 (lims (s2)))] W (Ret W (.agg (ints .i64 (lims (s11))))))
    (c12:∀ W,Calls Tryd.prog 76 #[.agg (ints .i64 (lims (s11))),.agg (ints .i64 (lims (s3)))] W (Ret W (.agg (ints .i64 (lims (s12))))))
    (c13:∀ W,Calls Tryd.prog 58 #[.agg (ints .i64 (lims (s6))),.agg (ints .i64 (lims (s12)))] W (Ret W (.agg (ints .i64 (lims (s13))))))
    (c14:∀ W,Calls Tryd.prog 58 #[.agg (ints .i64 (lims (s0))),.agg (ints .i64 (lims (s13)))] W (Ret W (.agg (ints .i64 (lims (s14))))))
    (c15:∀ W,Calls Tryd.prog 73 #[.agg (ints .i64 (lims (s3))),.agg (ints .i64 (lims (s2)))] W (Ret W (.agg (ints .i64 (lims (s15))))))
    (c16:∀ W,Calls Tryd.prog 58 #[.agg (ints .i64 (lims (s7))),.agg (ints .i64 (lims (s15)))] W (Ret W (.agg (ints .i64 (lims (s16))))))
    (c17:∀ W,Calls Tryd.prog 58 #[.agg (ints .i64 (lims (s0))),.agg (ints .i64 (lims (s16)))] W (Ret W (.agg (ints .i64 (lims (s17))))))
    (c18:∀ W,Calls Tryd.prog 58 #[.agg (ints .i64 (lims (s6))),.agg (ints .i64 (lims (s7)))] W (Ret W (.agg (ints .i64 (lims (s18)))))) (w:World) :
    Calls Tryd.prog 39 #[.agg (cat [ints .i64 (lims (x)),ints .i64 (lims (y)),ints .i64 (lims (z))]),.agg (cat [ints .i64 (lims (u)),ints .i64 (lims (v)),ints .i64 (lims (t))])] w (Ret w (.agg (cat [ints .i64 (lims (s14)),ints .i64 (lims (s17)),ints .i64 (lims (s18))]))):=by
  refine enter 73 [(0,.agg (cat [ints .i64 (lims (x)),ints .i64 (lims (y)),ints .i64 (lims (z))])),(1,.agg (cat [ints .i64 (lims (u)),ints .i64 (lims (v)),ints .i64 (lims (t))]))] Tryd.func39 rfl rfl kj rfl <| sgC fun K1 hK1=>Qah (cat [ints .i64 (lims (x)),ints .i64 (lims (y)),ints .i64 (lims (z))]) 60 2 rfl kj kj fun g2 W1 l2 e1 r2_1=>?_
  have x1:=Ext.tr (Rely.Ext.refl w) e1
  have b2:=qT (Rely.Ext.refl w).size l2
  refine Qah (cat [ints .i64 (lims (u)),ints .i64 (lims (v)),ints .i64 (lims (t))]) 60 3 rfl kj kj fun g3 W2 l3 e2 r3_2=>?_
  have x2:=Ext.tr x1 e2
  have b3:=qT x1.size l3
  refine Qah (cat [ints .i64 (lims (0)),ints .i64 (lims (0)),ints .i64 (lims (0))]) 60 4 rfl kj kj fun g4 W3 l4 e3 r4_3=>sgN hK1 <| sgC fun K5 hK5=>sg 1 kj ?_
  have r2_3:=(Qaa (Qaa r2_1 e2) e3)
  refine Qag (.agg (ints .i64 (lims (z)))) 14 rfl kj (Qaw 58 _ g2 32 60 _ _ _ r2_3 rfl kj (QaH [ints .i64 (lims (x)),ints .i64 (lims (y))] [ints .i64 (lims (z))] [] 32 kj) kj (isz (n:=16) kj kj)) <| sg 1 kj ?_
  have r3_3:=(Qaa r3_2 e3)
  refine Qag (.agg (ints .i64 (lims (t)))) 16 rfl kj (Qaw 58 _ g3 32 60 _ _ _ r3_3 rfl kj (QaH [ints .i64 (lims (u)),ints .i64 (lims (v))] [ints .i64 (lims (t))] [] 32 kj) kj (isz (n:=16) kj kj)) <| Qap (.agg (ints .i64 (lims (s0)))) 58 #[.agg (ints .i64 (lims (z))),.agg (ints .i64 (lims (t)))] 17 rfl kj kj (c0 _) fun W4 e4=>?_
  have x4:=Ext.tr (Ext.tr x2 e3) e4
  refine Qah (ints .i64 (lims (0))) 58 5 rfl kj kj fun g6 W5 l6 e5 r6_5=>Qai g6 _ (ints .i64 (lims (s0))) 58 r6_5 rfl kj (Qaf 58 _ _ g6 58 _ _ r6_5 rfl kj kj (isz (n:=16) kj kj) (eqsz (n:=16) kj kj) kj) fun W6 p6 r6_6=>sgN hK5 <| sgC fun K7 hK7=>Qag (.agg (ints .i64 (lims (s0)))) 18 rfl kj (Qac 58 _ g6 58 _ _ r6_6 rfl kj kj (isz (n:=16) kj kj)) <| Qag (.agg (ints .i64 (lims (s0)))) 19 rfl kj (Qac 58 _ g6 58 _ _ r6_6 rfl kj kj (isz (n:=16) kj kj)) <| Qap (.agg (ints .i64 (lims (s1)))) 58 #[.agg (ints .i64 (lims (s0))),.agg (ints .i64 (lims (s0)))] 20 rfl kj kj (c1 _) fun W7 e7=>?_
  have x7:=Ext.tr (Puts.ext p6 (Ext.tr x4 e5) (qT x4.size l6)) e7
  refine Qah (ints .i64 (lims (0))) 58 6 rfl kj kj fun g8 W8 l8 e8 r8_8=>Qai g8 _ (ints .i64 (lims (s1))) 58 r8_8 rfl kj (Qaf 58 _ _ g8 58 _ _ r8_8 rfl kj kj (isz (n:=16) kj kj) (eqsz (n:=16) kj kj) kj) fun W9 p9 r8_9=>sgN hK7 <| sgC fun K9 hK9=>sg 1 kj ?_
  have r2_4:=(Qaa r2_3 e4)
  have r2_9:=(Puts.row p9 (Qaa (Qaa (Puts.row p6 (Qaa (Qaa r2_3 e4) e5) (Qab r2_4 l6)) e7) e8) (Qab (Qaa (Puts.row p6 (Qaa r2_4 e5) (Qab r2_4 l6)) e7) l8))
  refine Qag (.agg (ints .i64 (lims (x)))) 22 rfl kj (Qaw 58 _ g2 0 60 _ _ _ r2_9 rfl kj (QaH [] [ints .i64 (lims (x))] [ints .i64 (lims (y)),ints .i64 (lims (z))] 0 kj) kj (isz (n:=16) kj kj)) <| sg 1 kj ?_
  have r3_4:=(Qaa r3_3 e4)
  have r3_9:=(Puts.row p9 (Qaa (Qaa (Puts.row p6 (Qaa (Qaa r3_3 e4) e5) (Qab r3_4 l6)) e7) e8) (Qab (Qaa (Puts.row p6 (Qaa r3_4 e5) (Qab r3_4 l6)) e7) l8))
  refine Qag (.agg (ints .i64 (lims (u)))) 24 rfl kj (Qaw 58 _ g3 0 60 _ _ _ r3_9 rfl kj (QaH [] [ints .i64 (lims (u))] [ints .i64 (lims (v)),ints .i64 (lims (t))] 0 kj) kj (isz (n:=16) kj kj)) <| Qap (.agg (ints .i64 (lims (s2)))) 58 #[.agg (ints .i64 (lims (x))),.agg (ints .i64 (lims (u)))] 25 rfl kj kj (c2 _) fun W10 e10=>?_
  have x10:=Ext.tr (Puts.ext p9 (Ext.tr x7 e8) (qT x7.size l8)) e10
  refine Qah (ints .i64 (lims (0))) 58 7 rfl kj kj fun g10 W11 l10 e11 r10_11=>Qai g10 _ (ints .i64 (lims (s2))) 58 r10_11 rfl kj (Qaf 58 _ _ g10 58 _ _ r10_11 rfl kj kj (isz (n:=16) kj kj) (eqsz (n:=16) kj kj) kj) fun W12 p12 r10_12=>sgN hK9 <| sgC fun K11 hK11=>sg 1 kj ?_
  have r2_12:=(Puts.row p12 (Qaa (Qaa r2_9 e10) e11) (Qab (Qaa r2_9 e10) l10))
  refine Qag (.agg (ints .i64 (lims (y)))) 27 rfl kj (Qaw 58 _ g2 16 60 _ _ _ r2_12 rfl kj (QaH [ints .i64 (lims (x))] [ints .i64 (lims (y))] [ints .i64 (lims (z))] 16 kj) kj (isz (n:=16) kj kj)) <| sg 1 kj ?_
  have r3_12:=(Puts.row p12 (Qaa (Qaa r3_9 e10) e11) (Qab (Qaa r3_9 e10) l10))
  refine Qag (.agg (ints .i64 (lims (v)))) 29 rfl kj (Qaw 58 _ g3 16 60 _ _ _ r3_12 rfl kj (QaH [ints .i64 (lims (u))] [ints .i64 (lims (v))] [ints .i64 (lims (t))] 16 kj) kj (isz (n:=16) kj kj)) <| Qap (.agg (ints .i64 (lims (s3)))) 58 #[.agg (ints .i64 (lims (y))),.agg (ints .i64 (lims (v)))] 30 rfl kj kj (c3 _) fun W13 e13=>?_
  have x13:=Ext.tr (Puts.ext p12 (Ext.tr x10 e11) (qT x10.size l10)) e13
  refine Qah (ints .i64 (lims (0))) 58 8 rfl kj kj fun g12 W14 l12 e14 r12_14=>Qai g12 _ (ints .i64 (lims (s3))) 58 r12_14 rfl kj (Qaf 58 _ _ g12 58 _ _ r12_14 rfl kj kj (isz (n:=16) kj kj) (eqsz (n:=16) kj kj) kj) fun W15 p15 r12_15=>?_
  have x15:=Puts.ext p15 (Ext.tr x13 e14) (qT x13.size l12)
  refine sgN hK11 <| wp_seq_k fun K13 hK13=>QaX 6 [⟨none,[]⟩,⟨none,[(7,none)]⟩,⟨none,[(8,none)]⟩,⟨none,[(32,some 1),(33,some 2)]⟩,⟨none,[(31,some 0),(34,some 3)]⟩,⟨none,[]⟩] [5] kj kj kj fun F hF=>Qan (.agg (ints .i64 (lims (dN)))) 74 #[] kj kj (fun W=>kj) (fun W hR=>factor W) ?_
  have r10_15:=(Puts.row p15 (Qaa (Qaa r10_12 e13) e14) (Qab (Qaa r10_12 e13) l12))
  refine Qal (.agg (ints .i64 (lims (s2)))) kj kj (fun W hR=>(Qac 58 _ g10 58 _ _ (Qaa (Qaa r10_15 (Qae _)) hR) rfl kj kj (isz (n:=16) kj kj))) <| Qal (.agg (ints .i64 (lims (s3)))) kj kj (fun W hR=>(Qac 58 _ g12 58 _ _ (Qaa (Qaa r12_15 (Qae _)) hR) rfl kj kj (isz (n:=16) kj kj))) <| Qan (.agg (ints .i64 (lims (s4)))) 58 #[.agg (ints .i64 (lims (s2))),.agg (ints .i64 (lims (s3)))] kj kj (fun W=>kj) (fun W hR=>c4 W) <| Qan (.agg (ints .i64 (lims (s5)))) 58 #[.agg (ints .i64 (lims (dN))),.agg (ints .i64 (lims (s4)))] kj kj (fun W=>kj) (fun W hR=>c5 W) <| Qb5 (ints .i64 (lims (0))) 58 kj (qR _) kj (fun W=>kj) <| Qa2 (hF _ kj fun W16 e16=>?_)
  simp only [fins,up,List.take_succ_cons,List.take_zero,List.drop_succ_cons,List.drop_zero,List.nil_append,List.cons_append]
  intro g14 l14 r14_16 n14
  clear hF
  refine Qai g14 _ (ints .i64 (lims (s5))) 58 r14_16 rfl kj (Qaf 58 _ _ g14 58 _ _ r14_16 rfl kj kj (isz (n:=16) kj kj) (eqsz (n:=16) kj kj) kj) fun W17 p17 r14_17=>sgN hK13 <| sgC fun K15 hK15=>?_
  have r8_10:=(Qaa r8_9 e10)
  have r8_13:=(Qaa (Puts.row p12 (Qaa r8_10 e11) (Qab r8_10 l10)) e13)
  have r8_17:=(Puts.row p17 (Qaa (Puts.row p15 (Qaa (Qaa (Puts.row p12 (Qaa (Qaa r8_9 e10) e11) (Qab r8_10 l10)) e13) e14) (Qab r8_13 l12)) e16) (Qab (Puts.row p15 (Qaa r8_13 e14) (Qab r8_13 l12)) l14))
  refine Qag (.agg (ints .i64 (lims (s1)))) 36 rfl kj (Qac 58 _ g8 58 _ _ r8_17 rfl kj kj (isz (n:=16) kj kj)) <| Qag (.agg (ints .i64 (lims (s5)))) 37 rfl kj (Qac 58 _ g14 58 _ _ r14_17 rfl kj kj (isz (n:=16) kj kj)) <| Qap (.agg (ints .i64 (lims (s6)))) 76 #[.agg (ints .i64 (lims (s1))),.agg (ints .i64 (lims (s5)))] 38 rfl kj kj (c6 _) fun W18 e18=>?_
  have x18:=Ext.tr (Puts.ext p17 (Ext.tr x15 e16) (qT x15.size l14)) e18
  refine Qah (ints .i64 (lims (0))) 58 10 rfl kj kj fun g16 W19 l16 e19 r16_19=>Qai g16 _ (ints .i64 (lims (s6))) 58 r16_19 rfl kj (Qaf 58 _ _ g16 58 _ _ r16_19 rfl kj kj (isz (n:=16) kj kj) (eqsz (n:=16) kj kj) kj) fun W20 p20 r16_20=>sgN hK15 <| sgC fun K17 hK17=>Qag (.agg (ints .i64 (lims (s1)))) 39 rfl kj (Qac 58 _ g8 58 _ _ (Puts.row p20 (Qaa (Qaa r8_17 e18) e19) (Qab (Qaa r8_17 e18) l16)) rfl kj kj (isz (n:=16) kj kj)) <| Qag (.agg (ints .i64 (lims (s5)))) 40 rfl kj (Qac 58 _ g14 58 _ _ (Puts.row p20 (Qaa (Qaa r14_17 e18) e19) (Qab (Qaa r14_17 e18) l16)) rfl kj kj (isz (n:=16) kj kj)) <| Qap (.agg (ints .i64 (lims (s7)))) 73 #[.agg (ints .i64 (lims (s1))),.agg (ints .i64 (lims (s5)))] 41 rfl kj kj (c7 _) fun W21 e21=>?_
  have x21:=Ext.tr (Puts.ext p20 (Ext.tr x18 e19) (qT x18.size l16)) e21
  refine Qah (ints .i64 (lims (0))) 58 11 rfl kj kj fun g18 W22 l18 e22 r18_22=>Qai g18 _ (ints .i64 (lims (s7))) 58 r18_22 rfl kj (Qaf 58 _ _ g18 58 _ _ r18_22 rfl kj kj (isz (n:=16) kj kj) (eqsz (n:=16) kj kj) kj) fun W23 p23 r18_23=>?_
  have x23:=Puts.ext p23 (Ext.tr x21 e22) (qT x21.size l18)
  refine sgN hK17 <| wp_seq_k fun K19 hK19=>QaX 16 [⟨none,[(2,none)]⟩,⟨none,[(42,some 0)]⟩,⟨none,[(2,none)]⟩,⟨none,[(44,some 2)]⟩,⟨none,[(43,some 1),(45,some 3)]⟩,⟨none,[(3,none)]⟩,⟨none,[(47,some 5)]⟩,⟨none,[(3,none)]⟩,⟨none,[(49,some 7)]⟩,⟨none,[(48,some 6),(50,some 8)]⟩,⟨none,[(46,some 4),(51,some 9)]⟩,⟨none,[(7,none)]⟩,⟨none,[(52,some 10),(53,some 11)]⟩,⟨none,[(8,none)]⟩,⟨none,[(54,some 12),(55,some 13)]⟩,⟨none,[]⟩] [15] kj kj kj fun F hF=>Qay (.pointer (some ⟨g2,0,none⟩)) kj kj (fun W=>kj) ?_
  have r2_13:=(Qaa r2_12 e13)
  have r2_15:=(Puts.row p15 (Qaa r2_13 e14) (Qab r2_13 l12))
  have r2_18:=(Qaa (Puts.row p17 (Qaa r2_15 e16) (Qab r2_15 l14)) e18)
  have r2_23:=(Puts.row p23 (Qaa (Qaa (Puts.row p20 (Qaa (Qaa (Puts.row p17 (Qaa (Puts.row p15 (Qaa (Qaa r2_12 e13) e14) (Qab r2_13 l12)) e16) (Qab r2_15 l14)) e18) e19) (Qab r2_18 l16)) e21) e22) (Qab (Qaa (Puts.row p20 (Qaa r2_18 e19) (Qab r2_18 l16)) e21) l18))
  refine Qal (.agg (ints .i64 (lims (x)))) kj kj (fun W hR=>(Qaw 58 _ g2 0 60 _ _ _ (Qaa (Qaa r2_23 (Qae _)) hR) rfl kj (QaH [] [ints .i64 (lims (x))] [ints .i64 (lims (y)),ints .i64 (lims (z))] 0 kj) kj (isz (n:=16) kj kj))) <| Qay (.pointer (some ⟨g2,16,none⟩)) kj kj (fun W=>kj) <| Qal (.agg (ints .i64 (lims (y)))) kj kj (fun W hR=>(Qaw 58 _ g2 16 60 _ _ _ (Qaa (Qaa r2_23 (Qae _)) hR) rfl kj (QaH [ints .i64 (lims (x))] [ints .i64 (lims (y))] [ints .i64 (lims (z))] 16 kj) kj (isz (n:=16) kj kj))) <| Qan (.agg (ints .i64 (lims (s8)))) 73 #[.agg (ints .i64 (lims (x))),.agg (ints .i64 (lims (y)))] kj kj (fun W=>kj) (fun W hR=>c8 W) <| Qay (.pointer (some ⟨g3,0,none⟩)) kj kj (fun W=>kj) ?_
  have r3_13:=(Qaa r3_12 e13)
  have r3_15:=(Puts.row p15 (Qaa r3_13 e14) (Qab r3_13 l12))
  have r3_18:=(Qaa (Puts.row p17 (Qaa r3_15 e16) (Qab r3_15 l14)) e18)
  have r3_23:=(Puts.row p23 (Qaa (Qaa (Puts.row p20 (Qaa (Qaa (Puts.row p17 (Qaa (Puts.row p15 (Qaa (Qaa r3_12 e13) e14) (Qab r3_13 l12)) e16) (Qab r3_15 l14)) e18) e19) (Qab r3_18 l16)) e21) e22) (Qab (Qaa (Puts.row p20 (Qaa r3_18 e19) (Qab r3_18 l16)) e21) l18))
  refine Qal (.agg (ints .i64 (lims (u)))) kj kj (fun W hR=>(Qaw 58 _ g3 0 60 _ _ _ (Qaa (Qaa r3_23 (Qae _)) hR) rfl kj (QaH [] [ints .i64 (lims (u))] [ints .i64 (lims (v)),ints .i64 (lims (t))] 0 kj) kj (isz (n:=16) kj kj))) <| Qay (.pointer (some ⟨g3,16,none⟩)) kj kj (fun W=>kj) <| Qal (.agg (ints .i64 (lims (v)))) kj kj (fun W hR=>(Qaw 58 _ g3 16 60 _ _ _ (Qaa (Qaa r3_23 (Qae _)) hR) rfl kj (QaH [ints .i64 (lims (u))] [ints .i64 (lims (v))] [ints .i64 (lims (t))] 16 kj) kj (isz (n:=16) kj kj))) <| Qan (.agg (ints .i64 (lims (s9)))) 73 #[.agg (ints .i64 (lims (u))),.agg (ints .i64 (lims (v)))] kj kj (fun W=>kj) (fun W hR=>c9 W) <| Qan (.agg (ints .i64 (lims (s10)))) 58 #[.agg (ints .i64 (lims (s8))),.agg (ints .i64 (lims (s9)))] kj kj (fun W=>kj) (fun W hR=>c10 W) ?_
  have r10_18:=(Qaa (Puts.row p17 (Qaa r10_15 e16) (Qab r10_15 l14)) e18)
  have r10_23:=(Puts.row p23 (Qaa (Qaa (Puts.row p20 (Qaa (Qaa (Puts.row p17 (Qaa r10_15 e16) (Qab r10_15 l14)) e18) e19) (Qab r10_18 l16)) e21) e22) (Qab (Qaa (Puts.row p20 (Qaa r10_18 e19) (Qab r10_18 l16)) e21) l18))
  refine Qal (.agg (ints .i64 (lims (s2)))) kj kj (fun W hR=>(Qac 58 _ g10 58 _ _ (Qaa (Qaa r10_23 (Qae _)) hR) rfl kj kj (isz (n:=16) kj kj))) <| Qan (.agg (ints .i64 (lims (s11)))) 76 #[.agg (ints .i64 (lims (s10))),.agg (ints .i64 (lims (s2)))] kj kj (fun W=>kj) (fun W hR=>c11 W) ?_
  have r12_18:=(Qaa (Puts.row p17 (Qaa r12_15 e16) (Qab r12_15 l14)) e18)
  have r12_23:=(Puts.row p23 (Qaa (Qaa (Puts.row p20 (Qaa (Qaa (Puts.row p17 (Qaa r12_15 e16) (Qab r12_15 l14)) e18) e19) (Qab r12_18 l16)) e21) e22) (Qab (Qaa (Puts.row p20 (Qaa r12_18 e19) (Qab r12_18 l16)) e21) l18))
  refine Qal (.agg (ints .i64 (lims (s3)))) kj kj (fun W hR=>(Qac 58 _ g12 58 _ _ (Qaa (Qaa r12_23 (Qae _)) hR) rfl kj kj (isz (n:=16) kj kj))) <| Qan (.agg (ints .i64 (lims (s12)))) 76 #[.agg (ints .i64 (lims (s11))),.agg (ints .i64 (lims (s3)))] kj kj (fun W=>kj) (fun W hR=>c12 W) <| Qb5 (ints .i64 (lims (0))) 58 kj (qR _) kj (fun W=>kj) <| Qa2 (hF _ kj fun W24 e24=>?_)
  simp only [fins,up,List.take_succ_cons,List.take_zero,List.drop_succ_cons,List.drop_zero,List.nil_append,List.cons_append]
  intro g20 l20 r20_24 n20
  clear hF
  refine Qai g20 _ (ints .i64 (lims (s12))) 58 r20_24 rfl kj (Qaf 58 _ _ g20 58 _ _ r20_24 rfl kj kj (isz (n:=16) kj kj) (eqsz (n:=16) kj kj) kj) fun W25 p25 r20_25=>sgN hK19 <| wp_seq_k fun K21 hK21=>QaC 16 [⟨none,[(5,none)]⟩,⟨none,[(10,none)]⟩,⟨none,[(12,none)]⟩,⟨none,[(58,some 1),(59,some 2)]⟩,⟨none,[(57,some 0),(60,some 3)]⟩,⟨none,[(5,none)]⟩,⟨none,[(11,none)]⟩,⟨none,[(8,none)]⟩,⟨none,[(7,none)]⟩,⟨none,[(64,some 7),(65,some 8)]⟩,⟨none,[(63,some 6),(66,some 9)]⟩,⟨none,[(62,some 5),(67,some 10)]⟩,⟨none,[(10,none)]⟩,⟨none,[(11,none)]⟩,⟨none,[(69,some 12),(70,some 13)]⟩,⟨none,[(61,some 4),(68,some 11),(71,some 14)]⟩] kj kj fun F hF=>?_
  have r6_7:=(Qaa r6_6 e7)
  have r6_10:=(Qaa (Puts.row p9 (Qaa r6_7 e8) (Qab r6_7 l8)) e10)
  have r6_13:=(Qaa (Puts.row p12 (Qaa r6_10 e11) (Qab r6_10 l10)) e13)
  have r6_15:=(Puts.row p15 (Qaa r6_13 e14) (Qab r6_13 l12))
  have r6_18:=(Qaa (Puts.row p17 (Qaa r6_15 e16) (Qab r6_15 l14)) e18)
  have r6_21:=(Qaa (Puts.row p20 (Qaa r6_18 e19) (Qab r6_18 l16)) e21)
  have r6_25:=(Puts.row p25 (Qaa (Puts.row p23 (Qaa (Qaa (Puts.row p20 (Qaa (Qaa (Puts.row p17 (Qaa (Puts.row p15 (Qaa (Qaa (Puts.row p12 (Qaa (Qaa (Puts.row p9 (Qaa (Qaa r6_6 e7) e8) (Qab r6_7 l8)) e10) e11) (Qab r6_10 l10)) e13) e14) (Qab r6_13 l12)) e16) (Qab r6_15 l14)) e18) e19) (Qab r6_18 l16)) e21) e22) (Qab r6_21 l18)) e24) (Qab (Puts.row p23 (Qaa r6_21 e22) (Qab r6_21 l18)) l20))
  refine Qal (.agg (ints .i64 (lims (s0)))) kj kj (fun W hR=>(Qac 58 _ g6 58 _ _ (Qaa (Qaa r6_25 (Qae _)) hR) rfl kj kj (isz (n:=16) kj kj))) ?_
  have r16_21:=(Qaa r16_20 e21)
  have r16_25:=(Puts.row p25 (Qaa (Puts.row p23 (Qaa (Qaa r16_20 e21) e22) (Qab r16_21 l18)) e24) (Qab (Puts.row p23 (Qaa r16_21 e22) (Qab r16_21 l18)) l20))
  refine Qal (.agg (ints .i64 (lims (s6)))) kj kj (fun W hR=>(Qac 58 _ g16 58 _ _ (Qaa (Qaa r16_25 (Qae _)) hR) rfl kj kj (isz (n:=16) kj kj))) <| Qal (.agg (ints .i64 (lims (s12)))) kj kj (fun W hR=>(Qac 58 _ g20 58 _ _ (Qaa (Qaa r20_25 (Qae _)) hR) rfl kj kj (isz (n:=16) kj kj))) <| Qan (.agg (ints .i64 (lims (s13)))) 58 #[.agg (ints .i64 (lims (s6))),.agg (ints .i64 (lims (s12)))] kj kj (fun W=>kj) (fun W hR=>c13 W) <| Qan (.agg (ints .i64 (lims (s14)))) 58 #[.agg (ints .i64 (lims (s0))),.agg (ints .i64 (lims (s13)))] kj kj (fun W=>kj) (fun W hR=>c14 W) <| Qal (.agg (ints .i64 (lims (s0)))) kj kj (fun W hR=>(Qac 58 _ g6 58 _ _ (Qaa (Qaa r6_25 (Qae _)) hR) rfl kj kj (isz (n:=16) kj kj))) ?_
  have r18_25:=(Puts.row p25 (Qaa r18_23 e24) (Qab r18_23 l20))
  refine Qal (.agg (ints .i64 (lims (s7)))) kj kj (fun W hR=>(Qac 58 _ g18 58 _ _ (Qaa (Qaa r18_25 (Qae _)) hR) rfl kj kj (isz (n:=16) kj kj))) <| Qal (.agg (ints .i64 (lims (s3)))) kj kj (fun W hR=>(Qac 58 _ g12 58 _ _ (Qaa (Qaa (Puts.row p25 (Qaa r12_23 e24) (Qab r12_23 l20)) (Qae _)) hR) rfl kj kj (isz (n:=16) kj kj))) <| Qal (.agg (ints .i64 (lims (s2)))) kj kj (fun W hR=>(Qac 58 _ g10 58 _ _ (Qaa (Qaa (Puts.row p25 (Qaa r10_23 e24) (Qab r10_23 l20)) (Qae _)) hR) rfl kj kj (isz (n:=16) kj kj))) <| Qan (.agg (ints .i64 (lims (s15)))) 73 #[.agg (ints .i64 (lims (s3))),.agg (ints .i64 (lims (s2)))] kj kj (fun W=>kj) (fun W hR=>c15 W) <| Qan (.agg (ints .i64 (lims (s16)))) 58 #[.agg (ints .i64 (lims (s7))),.agg (ints .i64 (lims (s15)))] kj kj (fun W=>kj) (fun W hR=>c16 W) <| Qan (.agg (ints .i64 (lims (s17)))) 58 #[.agg (ints .i64 (lims (s0))),.agg (ints .i64 (lims (s16)))] kj kj (fun W=>kj) (fun W hR=>c17 W) <| Qal (.agg (ints .i64 (lims (s6)))) kj kj (fun W hR=>(Qac 58 _ g16 58 _ _ (Qaa (Qaa r16_25 (Qae _)) hR) rfl kj kj (isz (n:=16) kj kj))) <| Qal (.agg (ints .i64 (lims (s7)))) kj kj (fun W hR=>(Qac 58 _ g18 58 _ _ (Qaa (Qaa r18_25 (Qae _)) hR) rfl kj kj (isz (n:=16) kj kj))) <| Qan (.agg (ints .i64 (lims (s18)))) 58 #[.agg (ints .i64 (lims (s6))),.agg (ints .i64 (lims (s7)))] kj kj (fun W=>kj) (fun W hR=>c18 W) <| Qay (.agg (cat [ints .i64 (lims (s14)),ints .i64 (lims (s17)),ints .i64 (lims (s18))])) kj kj (fun W=>kj) ?_
  refine Qa2 (hF _ kj fun W26 e26=>?_)
  simp only [ups,up,Kn.val,List.take_succ_cons,List.take_zero,List.drop_succ_cons,List.drop_zero,List.nil_append,List.cons_append]
  clear hF
  have r4_4:=(Qaa r4_3 e4)
  have r4_7:=(Qaa (Puts.row p6 (Qaa r4_4 e5) (Qab r4_4 l6)) e7)
  have r4_10:=(Qaa (Puts.row p9 (Qaa r4_7 e8) (Qab r4_7 l8)) e10)
  have r4_13:=(Qaa (Puts.row p12 (Qaa r4_10 e11) (Qab r4_10 l10)) e13)
  have r4_15:=(Puts.row p15 (Qaa r4_13 e14) (Qab r4_13 l12))
  have r4_18:=(Qaa (Puts.row p17 (Qaa r4_15 e16) (Qab r4_15 l14)) e18)
  have r4_21:=(Qaa (Puts.row p20 (Qaa r4_18 e19) (Qab r4_18 l16)) e21)
  have r4_26:=(Qaa (Puts.row p25 (Qaa (Puts.row p23 (Qaa (Qaa (Puts.row p20 (Qaa (Qaa (Puts.row p17 (Qaa (Puts.row p15 (Qaa (Qaa (Puts.row p12 (Qaa (Qaa (Puts.row p9 (Qaa (Qaa (Puts.row p6 (Qaa (Qaa r4_3 e4) e5) (Qab r4_4 l6)) e7) e8) (Qab r4_7 l8)) e10) e11) (Qab r4_10 l10)) e13) e14) (Qab r4_13 l12)) e16) (Qab r4_15 l14)) e18) e19) (Qab r4_18 l16)) e21) e22) (Qab r4_21 l18)) e24) (Qab (Puts.row p23 (Qaa r4_21 e22) (Qab r4_21 l18)) l20)) e26)
  refine Qai g4 _ (cat [ints .i64 (lims (s14)),ints .i64 (lims (s17)),ints .i64 (lims (s18))]) 60 r4_26 rfl kj (Qaf 60 _ _ g4 60 _ _ r4_26 rfl kj kj (isz (n:=48) kj kj) (eqsz (n:=48) kj kj) kj) fun W27 p27 r4_27=>sgN hK21 <| wp_ret ?_
  exact (show bodyPost _ _ _ .ret _ _ from ret1 (.agg (cat [ints .i64 (lims (s14)),ints .i64 (lims (s17)),ints .i64 (lims (s18))])) rfl (Qa8 g4 60 _ r4_27 kj kj (isz (n:=48) kj kj)) ⟨rfl,(Puts.ext p27 (Ext.tr (Puts.ext p25 (Ext.tr x23 e24) (qT x23.size l20)) e26) (qT x2.size l4))⟩)
theorem Qrc (x y z u v t:Int) (h_x:isN x) (h_y:isN y) (h_z:isN z) (h_u:isN u) (h_v:isN v) (h_t:isN t) (w:World):Calls Tryd.prog 39 #[.agg (cat [ints .i64 (lims (x)),ints .i64 (lims (y)),ints .i64 (lims (z))]),.agg (cat [ints .i64 (lims (u)),ints .i64 (lims (v)),ints .i64 (lims (t))])] w (Ret w (.agg (cat [ints .i64 (lims ((Qed x y z u v t).1)),ints .i64 (lims ((Qed x y z u v t).2.1)),ints .i64 (lims ((Qed x y z u v t).2.2))]))) :=
  QkJ x y z u v t h_x h_y h_z h_u h_v h_t _ _ _ _ _ _ _ _ _ _ _ _ _ _ _ _ _ _ _ (Qdz _ _ h_z h_t) (Qdz _ _ (isN_mod _) (isN_mod _)) (Qdz _ _ h_x h_u) (Qdz _ _ h_y h_v) (Qdz _ _ (isN_mod _) (isN_mod _)) (Qdz _ _ Qej (isN_mod _)) (Qki _ _ (isN_mod _) (isN_mod _)) (Qlx _ _ (isN_mod _) (isN_mod _)) (Qlx _ _ h_x h_y) (Qlx _ _ h_u h_v) (Qdz _ _ (isN_mod _) (isN_mod _)) (Qki _ _ (isN_mod _) (isN_mod _)) (Qki _ _ (isN_mod _) (isN_mod _)) (Qdz _ _ (isN_mod _) (isN_mod _)) (Qdz _ _ (isN_mod _) (isN_mod _)) (Qlx _ _ (isN_mod _) (isN_mod _)) (Qdz _ _ (isN_mod _) (isN_mod _)) (Qdz _ _ (isN_mod _) (isN_mod _)) (Qdz _ _ (isN_mod _) (isN_mod _)) w
theorem Qm7 (x y z u v t:Int) (h_x:isN x) (h_y:isN y) (h_z:isN z) (h_u:isN u) (h_v:isN v) (h_t:isN t):isN (Qed x y z u v t).1∧isN (Qed x y z u v t).2.1∧isN (Qed x y z u v t).2.2:=⟨(isN_mod _),(isN_mod _),(isN_mod _)⟩
def QkT  : Int×Int :=
  let s0:=(patF bxN byN).1
  let s1:=(patF bxN byN).2
  (s0,s1)
theorem QjX   (s0 s1:Int)
    (c0:∀ W,Calls Tryd.prog 43 #[.agg (numA (bxN)),.agg (numA (byN))] W (Ret W (.agg (cat [numA (s0),numA (s1)])))) (w:World) (tX:TypeId) (hX:w.heap[0]? = some (.cells (ints .u8 QbN) tX)) (tY:TypeId) (hY:w.heap[1]? = some (.cells (ints .u8 QbM) tY)) :
    Calls Tryd.prog 20 #[] w (Ret w (.agg (cat [numA (s0),numA (s1)]))):=by
  refine enter 6 [] Tryd.func20 rfl rfl kj rfl <| sgC fun K3 hK3=>Qah (cat [numA (0),numA (0)]) 51 0 rfl kj kj fun g4 W1 l4 e1 r4_1=>sgN hK3 <| wp_seq_k fun K5 hK5=>QaC 5 [⟨none,[]⟩,⟨none,[(1,some 0)]⟩,⟨none,[]⟩,⟨none,[(3,some 2)]⟩,⟨none,[(2,some 1),(4,some 3)]⟩] kj kj fun F hF=>Qal (.agg (ints .u8 (QbN))) kj kj (fun W hR=>(Qac 23 _ 0 tX _ _ (Qaa (Qaa (Qaa hX e1) (Qae _)) hR) rfl kj kj (isz (n:=32) kj ((Qad _ _).trans (by decide))))) <| Qan (.agg (numA (bxN))) 44 #[.agg (ints .u8 (QbN))] kj kj (fun W=>kj) (fun W hR=>from_bx W) <| Qal (.agg (ints .u8 (QbM))) kj kj (fun W hR=>(Qac 23 _ 1 tY _ _ (Qaa (Qaa (Qaa hY e1) (Qae _)) hR) rfl kj kj (isz (n:=32) kj ((Qad _ _).trans (by decide))))) <| Qan (.agg (numA (byN))) 44 #[.agg (ints .u8 (QbM))] kj kj (fun W=>kj) (fun W hR=>from_by W) ?_
  refine Qan (.agg (cat [numA (s0),numA (s1)])) 43 #[.agg (numA (bxN)),.agg (numA (byN))] kj kj (fun W=>kj) (fun W hR=>c0 W) <| Qa2 (hF _ kj fun W2 e2=>?_)
  simp only [ups,up,Kn.val,List.take_succ_cons,List.take_zero,List.drop_succ_cons,List.drop_zero,List.nil_append,List.cons_append]
  clear hF
  have r4_2:=(Qaa r4_1 e2)
  refine Qai g4 _ (cat [numA (s0),numA (s1)]) 51 r4_2 rfl kj (Qaf 51 _ _ g4 51 _ _ r4_2 rfl kj kj (isz (n:=8) kj kj) (eqsz (n:=8) kj kj) kj) fun W3 p3 r4_3=>sgN hK5 <| wp_ret ?_
  exact (show bodyPost _ _ _ .ret _ _ from ret1 (.agg (cat [numA (s0),numA (s1)])) rfl (Qa8 g4 51 _ r4_3 kj kj (isz (n:=8) kj kj)) ⟨rfl,(Puts.ext p3 (Ext.tr (Ext.tr (Rely.Ext.refl w) e1) e2) (qT (Rely.Ext.refl w).size l4))⟩)
theorem Qqm   (w : World) (tX:TypeId) (hX:w.heap[0]? = some (.cells (ints .u8 QbN) tX)) (tY:TypeId) (hY:w.heap[1]? = some (.cells (ints .u8 QbM) tY)):Calls Tryd.prog 20 #[] w (Ret w (.agg (cat [numA ((QkT ).1),numA ((QkT ).2)]))) :=
  QjX   _ _ (patC _ _ QlT QlS) w tX hX tY hY
end Go.Proofs.YtdoadngmgmdlbaaDoor.Field
end
section
namespace Go.Proofs.YtdoadngmgmdlbaaDoor.Field
open Go Go.RowKit
open Rely Auto
def enc (x y:Int):List Int:=if (x%2==1)=true then (Qaq y).set 31 (nth (Qaq y) 31+128) else Qaq y
theorem Qi1 (x l:Int) (h_x:isN x) (h_l:isN l) (ho:(x%2==1)=true) (w:World):Calls Tryd.prog 22 #[.agg (cat [numA (x),numA (l)])] w (Ret w (.agg (ints .u8 ((Qaq (pyF x l)).set 31 (nth (Qaq (pyF x l)) 31+128))))):=by
  refine enter 15 [(0,.agg (cat [numA (x),numA (l)]))] Tryd.func22 rfl rfl kj rfl <| sgC fun K1 hK1=>Qah (cat [numA (x),numA (l)]) 51 1 rfl kj kj fun g2 W1 l2 e1 r2_1=>?_
  have x1:=Ext.tr (Rely.Ext.refl w) e1
  have b2:=qT (Rely.Ext.refl w).size l2
  refine Qah (ints .u8 (List.replicate 32 0)) 23 2 rfl kj kj fun g3 W2 l3 e2 r3_2=>sgN hK1 <| sgC fun K4 hK4=>?_
  have r2_2:=(Qaa r2_1 e2)
  refine Qag (.agg (cat [numA (x),numA (l)])) 4 rfl kj (Qac 51 _ g2 51 _ _ r2_2 rfl kj kj (isz (n:=8) kj kj)) <| Qap (.agg (numA (pyF x l))) 49 #[.agg (cat [numA (x),numA (l)])] 5 rfl kj kj ((pyC x l h_x h_l) _) fun W3 e3=>Qap (.agg (ints .u8 (Qaq (pyF x l)))) 50 #[.agg (numA (pyF x l))] 6 rfl kj kj ((bytes _ (Qh0 x l h_x h_l)) _) fun W4 e4=>?_
  have x4:=Ext.tr (Ext.tr (Ext.tr x1 e2) e3) e4
  refine Qah (ints .u8 (List.replicate 32 0)) 23 3 rfl kj kj fun g5 W5 l5 e5 r5_5=>?_
  have b5:=qT x4.size l5
  refine Qai g5 _ (ints .u8 (Qaq (pyF x l))) 23 r5_5 rfl kj (Qaf 23 _ _ g5 23 _ _ r5_5 rfl kj kj (isz (n:=32) kj ((Qad _ _).trans (bytes_len _))) (eqsz (n:=32) ((Qad _ _).trans zlen) ((Qad _ _).trans (bytes_len _))) (ints_one _ _)) fun W6 p6 r5_6=>sgN hK4 <| wp_seq_k fun K6 hK6=>sgC fun K7 hK7=>sg 1 kj <| Qag (.agg (numA (x))) 8 rfl kj (Qaw 49 _ g2 0 51 _ _ _ (Puts.row p6 (Qaa (Qaa (Qaa r2_2 e3) e4) e5) (Qab (Qaa (Qaa r2_2 e3) e4) l5)) rfl kj (QaH [] [numA (x)] [numA (l)] 0 kj) kj (isz (n:=4) kj kj)) <| Qap (.bool true) 51 #[.agg (numA (x))] 9 rfl kj kj ((QnN x true h_x ho) _) fun W7 e7=>sgN hK7 <| cond_true kj <| Qat ?_
  refine sg 1 kj ?_
  have r5_7:=(Qaa r5_6 e7)
  refine Qag (.int .u8 (nth (Qaq (pyF x l)) 31)) 11 rfl kj (Qak 5 _ g5 31 23 _ (.int .u8 (nth (Qaq (pyF x l)) 31)) _ r5_7 rfl kj (Qar _ _ _ (Nat.lt_of_lt_of_eq (by decide) (bytes_len _).symm)) kj) <| Qag (.int .u8 (nth (Qaq (pyF x l)) 31+128)) 12 rfl kj (Qam (u:=.int .u8 (bits .or .u8 ((nth (Qaq (pyF x l)) 31)) (128))) kj (congrArg (Value.int .u8) (Qrl _ (QdJ (Qh0 x l h_x h_l))))) <| sg 1 kj <| Qai g5 _ (ints .u8 ((Qaq (pyF x l)).set 31 (nth (Qaq (pyF x l)) 31+128))) 23 r5_7 rfl kj (Qaz 5 _ _ g5 31 23 _ _ r5_7 rfl kj kj kj (Nat.lt_of_lt_of_eq (show 31<32 by decide) (bytes_len _).symm)) fun W8 p8 r5_8=>Qa7 <| hK6 _ _ <| sgC fun K8 hK8=>Qag (.agg (ints .u8 ((Qaq (pyF x l)).set 31 (nth (Qaq (pyF x l)) 31+128)))) 14 rfl kj (Qac 23 _ g5 23 _ _ r5_8 rfl kj kj (isz (n:=32) kj ((Qad _ _).trans ((List.length_set ..).trans (bytes_len _))))) ?_
  have r3_4:=(Qaa (Qaa r3_2 e3) e4)
  have r3_8:=(Puts.row p8 (Qaa (Puts.row p6 (Qaa (Qaa (Qaa r3_2 e3) e4) e5) (Qab r3_4 l5)) e7) (Qab r3_4 l5))
  refine Qai g3 _ (ints .u8 ((Qaq (pyF x l)).set 31 (nth (Qaq (pyF x l)) 31+128))) 23 r3_8 rfl kj (Qaf 23 _ _ g3 23 _ _ r3_8 rfl kj kj (isz (n:=32) kj ((Qad _ _).trans ((List.length_set ..).trans (bytes_len _)))) (eqsz (n:=32) ((Qad _ _).trans zlen) ((Qad _ _).trans ((List.length_set ..).trans (bytes_len _)))) (ints_one _ _)) fun W9 p9 r3_9=>sgN hK8 <| wp_ret ?_
  exact (show bodyPost _ _ _ .ret _ _ from ret1 (.agg (ints .u8 ((Qaq (pyF x l)).set 31 (nth (Qaq (pyF x l)) 31+128)))) rfl (Qa8 g3 23 _ r3_9 kj kj (isz (n:=32) kj ((Qad _ _).trans ((List.length_set ..).trans (bytes_len _))))) ⟨rfl,(Puts.ext p9 (Puts.ext p8 (Ext.tr (Puts.ext p6 (Ext.tr x4 e5) b5) e7) b5) (qT x1.size l3))⟩)
theorem Qh5 (x l:Int) (h_x:isN x) (h_l:isN l) (ho:(x%2==1)=false) (w:World):Calls Tryd.prog 22 #[.agg (cat [numA (x),numA (l)])] w (Ret w (.agg (ints .u8 (Qaq (pyF x l))))):=by
  refine enter 15 [(0,.agg (cat [numA (x),numA (l)]))] Tryd.func22 rfl rfl kj rfl <| sgC fun K1 hK1=>Qah (cat [numA (x),numA (l)]) 51 1 rfl kj kj fun g2 W1 l2 e1 r2_1=>?_
  have x1:=Ext.tr (Rely.Ext.refl w) e1
  have b2:=qT (Rely.Ext.refl w).size l2
  refine Qah (ints .u8 (List.replicate 32 0)) 23 2 rfl kj kj fun g3 W2 l3 e2 r3_2=>sgN hK1 <| sgC fun K4 hK4=>?_
  have r2_2:=(Qaa r2_1 e2)
  refine Qag (.agg (cat [numA (x),numA (l)])) 4 rfl kj (Qac 51 _ g2 51 _ _ r2_2 rfl kj kj (isz (n:=8) kj kj)) <| Qap (.agg (numA (pyF x l))) 49 #[.agg (cat [numA (x),numA (l)])] 5 rfl kj kj ((pyC x l h_x h_l) _) fun W3 e3=>Qap (.agg (ints .u8 (Qaq (pyF x l)))) 50 #[.agg (numA (pyF x l))] 6 rfl kj kj ((bytes _ (Qh0 x l h_x h_l)) _) fun W4 e4=>?_
  have x4:=Ext.tr (Ext.tr (Ext.tr x1 e2) e3) e4
  refine Qah (ints .u8 (List.replicate 32 0)) 23 3 rfl kj kj fun g5 W5 l5 e5 r5_5=>Qai g5 _ (ints .u8 (Qaq (pyF x l))) 23 r5_5 rfl kj (Qaf 23 _ _ g5 23 _ _ r5_5 rfl kj kj (isz (n:=32) kj ((Qad _ _).trans (bytes_len _))) (eqsz (n:=32) ((Qad _ _).trans zlen) ((Qad _ _).trans (bytes_len _))) (ints_one _ _)) fun W6 p6 r5_6=>sgN hK4 <| wp_seq_k fun K6 hK6=>sgC fun K7 hK7=>sg 1 kj <| Qag (.agg (numA (x))) 8 rfl kj (Qaw 49 _ g2 0 51 _ _ _ (Puts.row p6 (Qaa (Qaa (Qaa r2_2 e3) e4) e5) (Qab (Qaa (Qaa r2_2 e3) e4) l5)) rfl kj (QaH [] [numA (x)] [numA (l)] 0 kj) kj (isz (n:=4) kj kj)) <| Qap (.bool false) 51 #[.agg (numA (x))] 9 rfl kj kj ((QnN x false h_x ho) _) fun W7 e7=>sgN hK7 <| cond_false kj ?_
  refine wp_skip <| hK6 _ _ <| sgC fun K8 hK8=>Qag (.agg (ints .u8 (Qaq (pyF x l)))) 14 rfl kj (Qac 23 _ g5 23 _ _ (Qaa r5_6 e7) rfl kj kj (isz (n:=32) kj ((Qad _ _).trans (bytes_len _)))) ?_
  have r3_7:=(Qaa (Puts.row p6 (Qaa (Qaa (Qaa r3_2 e3) e4) e5) (Qab (Qaa (Qaa r3_2 e3) e4) l5)) e7)
  refine Qai g3 _ (ints .u8 (Qaq (pyF x l))) 23 r3_7 rfl kj (Qaf 23 _ _ g3 23 _ _ r3_7 rfl kj kj (isz (n:=32) kj ((Qad _ _).trans (bytes_len _))) (eqsz (n:=32) ((Qad _ _).trans zlen) ((Qad _ _).trans (bytes_len _))) (ints_one _ _)) fun W8 p8 r3_8=>sgN hK8 <| wp_ret ?_
  exact (show bodyPost _ _ _ .ret _ _ from ret1 (.agg (ints .u8 (Qaq (pyF x l)))) rfl (Qa8 g3 23 _ r3_8 kj kj (isz (n:=32) kj ((Qad _ _).trans (bytes_len _)))) ⟨rfl,(Puts.ext p8 (Ext.tr (Puts.ext p6 (Ext.tr x4 e5) (qT x4.size l5)) e7) (qT x1.size l3))⟩)
theorem QoG (x l:Int) (h_x:isN x) (h_l:isN l) (w:World):Calls Tryd.prog 22 #[.agg (cat [numA x,numA l])] w (Ret w (.agg (ints .u8 (enc x (pyF x l))))):=by
  unfold enc
  cases ho:(x%2==1)
  · simp only [Bool.false_eq_true,if_false]; exact Qh5 x l h_x h_l ho w
  · simp only [if_true]; exact Qi1 x l h_x h_l ho w
theorem Qix (x y z:Int) (h_x:isN x) (h_y:isN y) (h_z:isN z) (ho:((x*invN z%p)%2==1)=true) (w:World):Calls Tryd.prog 25 #[.agg (cat [ints .i64 (lims (x)),ints .i64 (lims (y)),ints .i64 (lims (z))])] w (Ret w (.agg (ints .u8 ((Qaq (y*invN z%p)).set 31 (nth (Qaq (y*invN z%p)) 31+128))))):=by
  refine enter 25 [(0,.agg (cat [ints .i64 (lims (x)),ints .i64 (lims (y)),ints .i64 (lims (z))]))] Tryd.func25 rfl rfl kj rfl <| sgC fun K1 hK1=>Qah (cat [ints .i64 (lims (x)),ints .i64 (lims (y)),ints .i64 (lims (z))]) 60 1 rfl kj kj fun g2 W1 l2 e1 r2_1=>?_
  have x1:=Ext.tr (Rely.Ext.refl w) e1
  have b2:=qT (Rely.Ext.refl w).size l2
  refine Qah (ints .u8 (List.replicate 32 0)) 23 2 rfl kj kj fun g3 W2 l3 e2 r3_2=>sgN hK1 <| sgC fun K4 hK4=>sg 1 kj ?_
  have r2_2:=(Qaa r2_1 e2)
  refine Qag (.agg (ints .i64 (lims (z)))) 6 rfl kj (Qaw 58 _ g2 32 60 _ _ _ r2_2 rfl kj (QaH [ints .i64 (lims (x)),ints .i64 (lims (y))] [ints .i64 (lims (z))] [] 32 kj) kj (isz (n:=16) kj kj)) <| Qap (.agg (ints .i64 (lims (invN z)))) 56 #[.agg (ints .i64 (lims (z)))] 7 rfl kj kj ((lInv _ h_z) _) fun W3 e3=>?_
  have x3:=Ext.tr (Ext.tr x1 e2) e3
  refine Qah (ints .i64 (lims (0))) 58 3 rfl kj kj fun g5 W4 l5 e4 r5_4=>Qai g5 _ (ints .i64 (lims (invN z))) 58 r5_4 rfl kj (Qaf 58 _ _ g5 58 _ _ r5_4 rfl kj kj (isz (n:=16) kj kj) (eqsz (n:=16) kj kj) kj) fun W5 p5 r5_5=>sgN hK4 <| sgC fun K6 hK6=>sg 1 kj ?_
  have r2_5:=(Puts.row p5 (Qaa (Qaa r2_2 e3) e4) (Qab (Qaa r2_2 e3) l5))
  refine Qag (.agg (ints .i64 (lims (y)))) 9 rfl kj (Qaw 58 _ g2 16 60 _ _ _ r2_5 rfl kj (QaH [ints .i64 (lims (x))] [ints .i64 (lims (y))] [ints .i64 (lims (z))] 16 kj) kj (isz (n:=16) kj kj)) <| Qag (.agg (ints .i64 (lims (invN z)))) 10 rfl kj (Qac 58 _ g5 58 _ _ r5_5 rfl kj kj (isz (n:=16) kj kj)) <| Qap (.agg (ints .i64 (lims (y*invN z%p)))) 58 #[.agg (ints .i64 (lims (y))),.agg (ints .i64 (lims (invN z)))] 11 rfl kj kj ((Qdz _ _ h_y (QcT _)) _) fun W6 e6=>Qap (.agg (ints .u8 (Qaq (y*invN z%p)))) 57 #[.agg (ints .i64 (lims (y*invN z%p)))] 12 rfl kj kj ((Qlw _) _) fun W7 e7=>?_
  have x7:=Ext.tr (Ext.tr (Puts.ext p5 (Ext.tr x3 e4) (qT x3.size l5)) e6) e7
  refine Qah (ints .u8 (List.replicate 32 0)) 23 4 rfl kj kj fun g7 W8 l7 e8 r7_8=>?_
  have b7:=qT x7.size l7
  refine Qai g7 _ (ints .u8 (Qaq (y*invN z%p))) 23 r7_8 rfl kj (Qaf 23 _ _ g7 23 _ _ r7_8 rfl kj kj (isz (n:=32) kj ((Qad _ _).trans (bytes_len _))) (eqsz (n:=32) ((Qad _ _).trans zlen) ((Qad _ _).trans (bytes_len _))) (ints_one _ _)) fun W9 p9 r7_9=>sgN hK6 <| wp_seq_k fun K8 hK8=>sgC fun K9 hK9=>sg 1 kj <| Qag (.agg (ints .i64 (lims (x)))) 14 rfl kj (Qaw 58 _ g2 0 60 _ _ _ (Puts.row p9 (Qaa (Qaa (Qaa r2_5 e6) e7) e8) (Qab (Qaa (Qaa r2_5 e6) e7) l7)) rfl kj (QaH [] [ints .i64 (lims (x))] [ints .i64 (lims (y)),ints .i64 (lims (z))] 0 kj) kj (isz (n:=16) kj kj)) <| Qag (.agg (ints .i64 (lims (invN z)))) 15 rfl kj (Qac 58 _ g5 58 _ _ (Puts.row p9 (Qaa (Qaa (Qaa r5_5 e6) e7) e8) (Qab (Qaa (Qaa r5_5 e6) e7) l7)) rfl kj kj (isz (n:=16) kj kj)) <| Qap (.agg (ints .i64 (lims (x*invN z%p)))) 58 #[.agg (ints .i64 (lims (x))),.agg (ints .i64 (lims (invN z)))] 16 rfl kj kj ((Qdz _ _ h_x (QcT _)) _) fun W10 e10=>Qag (.int .i64 (nth (lims (x*invN z%p)) 0)) 17 rfl kj (run_index_il 58 _ _ .i64 .i64 (lims (x*invN z%p)) 0 16 3 (nth (lims (x*invN z%p)) 0) rfl kj kj kj kj kj (Qa0 _) (by decide) rfl) <| Qag (.int .i64 ((x*invN z%p)%2)) 18 rfl kj (Qam (u:=.int .i64 (Int.tmod ((nth (lims (x*invN z%p)) 0)) (2))) kj (congrArg (Value.int .i64) (QhL _))) ?_
  refine Qag (.bool true) 19 rfl kj (Qam (u:=.bool ((((x*invN z%p)%2)==1))) kj (congrArg Value.bool ho)) <| sgN hK9 <| cond_true kj <| Qat <| sg 1 kj ?_
  have r7_10:=(Qaa r7_9 e10)
  refine Qag (.int .u8 (nth (Qaq (y*invN z%p)) 31)) 21 rfl kj (Qak 5 _ g7 31 23 _ (.int .u8 (nth (Qaq (y*invN z%p)) 31)) _ r7_10 rfl kj (Qar _ _ _ (Nat.lt_of_lt_of_eq (by decide) (bytes_len _).symm)) kj) <| Qag (.int .u8 (nth (Qaq (y*invN z%p)) 31+128)) 22 rfl kj (Qam (u:=.int .u8 (IntKind.u8.wrap ((nth (Qaq (y*invN z%p)) 31)+128))) kj (congrArg (Value.int .u8) (QqT _ (QdJ (isN_mod _))))) <| sg 1 kj <| Qai g7 _ (ints .u8 ((Qaq (y*invN z%p)).set 31 (nth (Qaq (y*invN z%p)) 31+128))) 23 r7_10 rfl kj (Qaz 5 _ _ g7 31 23 _ _ r7_10 rfl kj kj kj (Nat.lt_of_lt_of_eq (show 31<32 by decide) (bytes_len _).symm)) fun W11 p11 r7_11=>Qa7 <| hK8 _ _ <| sgC fun K10 hK10=>Qag (.agg (ints .u8 ((Qaq (y*invN z%p)).set 31 (nth (Qaq (y*invN z%p)) 31+128)))) 24 rfl kj (Qac 23 _ g7 23 _ _ r7_11 rfl kj kj (isz (n:=32) kj ((Qad _ _).trans ((List.length_set ..).trans (bytes_len _))))) ?_
  have r3_3:=(Qaa r3_2 e3)
  have r3_7:=(Qaa (Qaa (Puts.row p5 (Qaa r3_3 e4) (Qab r3_3 l5)) e6) e7)
  have r3_11:=(Puts.row p11 (Qaa (Puts.row p9 (Qaa (Qaa (Qaa (Puts.row p5 (Qaa (Qaa r3_2 e3) e4) (Qab r3_3 l5)) e6) e7) e8) (Qab r3_7 l7)) e10) (Qab r3_7 l7))
  refine Qai g3 _ (ints .u8 ((Qaq (y*invN z%p)).set 31 (nth (Qaq (y*invN z%p)) 31+128))) 23 r3_11 rfl kj (Qaf 23 _ _ g3 23 _ _ r3_11 rfl kj kj (isz (n:=32) kj ((Qad _ _).trans ((List.length_set ..).trans (bytes_len _)))) (eqsz (n:=32) ((Qad _ _).trans zlen) ((Qad _ _).trans ((List.length_set ..).trans (bytes_len _)))) (ints_one _ _)) fun W12 p12 r3_12=>sgN hK10 <| wp_ret ?_
  exact (show bodyPost _ _ _ .ret _ _ from ret1 (.agg (ints .u8 ((Qaq (y*invN z%p)).set 31 (nth (Qaq (y*invN z%p)) 31+128)))) rfl (Qa8 g3 23 _ r3_12 kj kj (isz (n:=32) kj ((Qad _ _).trans ((List.length_set ..).trans (bytes_len _))))) ⟨rfl,(Puts.ext p12 (Puts.ext p11 (Ext.tr (Puts.ext p9 (Ext.tr x7 e8) b7) e10) b7) (qT x1.size l3))⟩)
theorem Qhy (x y z:Int) (h_x:isN x) (h_y:isN y) (h_z:isN z) (ho:((x*invN z%p)%2==1)=false) (w:World):Calls Tryd.prog 25 #[.agg (cat [ints .i64 (lims (x)),ints .i64 (lims (y)),ints .i64 (lims (z))])] w (Ret w (.agg (ints .u8 (Qaq (y*invN z%p))))):=by
  refine enter 25 [(0,.agg (cat [ints .i64 (lims (x)),ints .i64 (lims (y)),ints .i64 (lims (z))]))] Tryd.func25 rfl rfl kj rfl <| sgC fun K1 hK1=>Qah (cat [ints .i64 (lims (x)),ints .i64 (lims (y)),ints .i64 (lims (z))]) 60 1 rfl kj kj fun g2 W1 l2 e1 r2_1=>?_
  have x1:=Ext.tr (Rely.Ext.refl w) e1
  have b2:=qT (Rely.Ext.refl w).size l2
  refine Qah (ints .u8 (List.replicate 32 0)) 23 2 rfl kj kj fun g3 W2 l3 e2 r3_2=>sgN hK1 <| sgC fun K4 hK4=>sg 1 kj ?_
  have r2_2:=(Qaa r2_1 e2)
  refine Qag (.agg (ints .i64 (lims (z)))) 6 rfl kj (Qaw 58 _ g2 32 60 _ _ _ r2_2 rfl kj (QaH [ints .i64 (lims (x)),ints .i64 (lims (y))] [ints .i64 (lims (z))] [] 32 kj) kj (isz (n:=16) kj kj)) <| Qap (.agg (ints .i64 (lims (invN z)))) 56 #[.agg (ints .i64 (lims (z)))] 7 rfl kj kj ((lInv _ h_z) _) fun W3 e3=>?_
  have x3:=Ext.tr (Ext.tr x1 e2) e3
  refine Qah (ints .i64 (lims (0))) 58 3 rfl kj kj fun g5 W4 l5 e4 r5_4=>Qai g5 _ (ints .i64 (lims (invN z))) 58 r5_4 rfl kj (Qaf 58 _ _ g5 58 _ _ r5_4 rfl kj kj (isz (n:=16) kj kj) (eqsz (n:=16) kj kj) kj) fun W5 p5 r5_5=>sgN hK4 <| sgC fun K6 hK6=>sg 1 kj ?_
  have r2_5:=(Puts.row p5 (Qaa (Qaa r2_2 e3) e4) (Qab (Qaa r2_2 e3) l5))
  refine Qag (.agg (ints .i64 (lims (y)))) 9 rfl kj (Qaw 58 _ g2 16 60 _ _ _ r2_5 rfl kj (QaH [ints .i64 (lims (x))] [ints .i64 (lims (y))] [ints .i64 (lims (z))] 16 kj) kj (isz (n:=16) kj kj)) <| Qag (.agg (ints .i64 (lims (invN z)))) 10 rfl kj (Qac 58 _ g5 58 _ _ r5_5 rfl kj kj (isz (n:=16) kj kj)) <| Qap (.agg (ints .i64 (lims (y*invN z%p)))) 58 #[.agg (ints .i64 (lims (y))),.agg (ints .i64 (lims (invN z)))] 11 rfl kj kj ((Qdz _ _ h_y (QcT _)) _) fun W6 e6=>Qap (.agg (ints .u8 (Qaq (y*invN z%p)))) 57 #[.agg (ints .i64 (lims (y*invN z%p)))] 12 rfl kj kj ((Qlw _) _) fun W7 e7=>?_
  have x7:=Ext.tr (Ext.tr (Puts.ext p5 (Ext.tr x3 e4) (qT x3.size l5)) e6) e7
  refine Qah (ints .u8 (List.replicate 32 0)) 23 4 rfl kj kj fun g7 W8 l7 e8 r7_8=>Qai g7 _ (ints .u8 (Qaq (y*invN z%p))) 23 r7_8 rfl kj (Qaf 23 _ _ g7 23 _ _ r7_8 rfl kj kj (isz (n:=32) kj ((Qad _ _).trans (bytes_len _))) (eqsz (n:=32) ((Qad _ _).trans zlen) ((Qad _ _).trans (bytes_len _))) (ints_one _ _)) fun W9 p9 r7_9=>sgN hK6 <| wp_seq_k fun K8 hK8=>sgC fun K9 hK9=>sg 1 kj <| Qag (.agg (ints .i64 (lims (x)))) 14 rfl kj (Qaw 58 _ g2 0 60 _ _ _ (Puts.row p9 (Qaa (Qaa (Qaa r2_5 e6) e7) e8) (Qab (Qaa (Qaa r2_5 e6) e7) l7)) rfl kj (QaH [] [ints .i64 (lims (x))] [ints .i64 (lims (y)),ints .i64 (lims (z))] 0 kj) kj (isz (n:=16) kj kj)) <| Qag (.agg (ints .i64 (lims (invN z)))) 15 rfl kj (Qac 58 _ g5 58 _ _ (Puts.row p9 (Qaa (Qaa (Qaa r5_5 e6) e7) e8) (Qab (Qaa (Qaa r5_5 e6) e7) l7)) rfl kj kj (isz (n:=16) kj kj)) <| Qap (.agg (ints .i64 (lims (x*invN z%p)))) 58 #[.agg (ints .i64 (lims (x))),.agg (ints .i64 (lims (invN z)))] 16 rfl kj kj ((Qdz _ _ h_x (QcT _)) _) fun W10 e10=>Qag (.int .i64 (nth (lims (x*invN z%p)) 0)) 17 rfl kj (run_index_il 58 _ _ .i64 .i64 (lims (x*invN z%p)) 0 16 3 (nth (lims (x*invN z%p)) 0) rfl kj kj kj kj kj (Qa0 _) (by decide) rfl) ?_
  refine Qag (.int .i64 ((x*invN z%p)%2)) 18 rfl kj (Qam (u:=.int .i64 (Int.tmod ((nth (lims (x*invN z%p)) 0)) (2))) kj (congrArg (Value.int .i64) (QhL _))) <| Qag (.bool false) 19 rfl kj (Qam (u:=.bool ((((x*invN z%p)%2)==1))) kj (congrArg Value.bool ho)) <| sgN hK9 <| cond_false kj <| wp_skip <| hK8 _ _ <| sgC fun K10 hK10=>Qag (.agg (ints .u8 (Qaq (y*invN z%p)))) 24 rfl kj (Qac 23 _ g7 23 _ _ (Qaa r7_9 e10) rfl kj kj (isz (n:=32) kj ((Qad _ _).trans (bytes_len _)))) ?_
  have r3_3:=(Qaa r3_2 e3)
  have r3_10:=(Qaa (Puts.row p9 (Qaa (Qaa (Qaa (Puts.row p5 (Qaa (Qaa r3_2 e3) e4) (Qab r3_3 l5)) e6) e7) e8) (Qab (Qaa (Qaa (Puts.row p5 (Qaa r3_3 e4) (Qab r3_3 l5)) e6) e7) l7)) e10)
  refine Qai g3 _ (ints .u8 (Qaq (y*invN z%p))) 23 r3_10 rfl kj (Qaf 23 _ _ g3 23 _ _ r3_10 rfl kj kj (isz (n:=32) kj ((Qad _ _).trans (bytes_len _))) (eqsz (n:=32) ((Qad _ _).trans zlen) ((Qad _ _).trans (bytes_len _))) (ints_one _ _)) fun W11 p11 r3_11=>sgN hK10 <| wp_ret ?_
  exact (show bodyPost _ _ _ .ret _ _ from ret1 (.agg (ints .u8 (Qaq (y*invN z%p)))) rfl (Qa8 g3 23 _ r3_11 kj kj (isz (n:=32) kj ((Qad _ _).trans (bytes_len _)))) ⟨rfl,(Puts.ext p11 (Ext.tr (Puts.ext p9 (Ext.tr x7 e8) (qT x7.size l7)) e10) (qT x1.size l3))⟩)
theorem rbytesC (x y z:Int) (h_x:isN x) (h_y:isN y) (h_z:isN z) (w:World):Calls Tryd.prog 25 #[.agg (cat [ints .i64 (lims x),ints .i64 (lims y),ints .i64 (lims z)])] w (Ret w (.agg (ints .u8 (enc (x*invN z%p) (y*invN z%p))))):=by
  unfold enc
  cases ho:((x*invN z%p)%2==1)
  · simp only [Bool.false_eq_true,if_false]; exact Qhy x y z h_x h_y h_z ho w
  · simp only [if_true]; exact Qix x y z h_x h_y h_z ho w
end Go.Proofs.YtdoadngmgmdlbaaDoor.Field
end
