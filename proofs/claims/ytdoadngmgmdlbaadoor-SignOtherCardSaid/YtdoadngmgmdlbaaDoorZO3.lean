/- Texts of this claim, joined (O3). -/
import Derived.Test.YtdoadngmgmdlbaaDoorZO2
import Derived.Lib.LaidTab

set_option linter.unusedVariables false
set_option linter.unusedSimpArgs false
set_option maxHeartbeats 4000000
section
section
namespace Go.Proofs.YtdoadngmgmdlbaaDoor.Field
open Go Go.RowKit
open Rely
def lnum (n : Int):Value:=.agg (ints .i64 (lims n))
def big : Int:=115792089237316195423570985008687907853269984665640564039457584007913129639936
theorem QfZ : (65536:Int)^16=big:=by decide
theorem QaY (xs : List Int) (h:xs.length=16):(Tryd.prog.info? 58).map (·.size)=some (ints .i64 xs).size:=by
  rw [Qad,h]
  kernel_rfl
def Qc3 (x y:Int) (i:Nat):Int:=limb x i-limb y i
theorem Qiz (g h:Nat→Int):∀ k,pvf (fun i=>g i-h i) k=pvf g k-pvf h k
  | 0=>rfl
  | k+1=>by simp only [pvf]; rw [Qiz g h k,Int.sub_mul]; omega
theorem QfJ (x y:Int) (hx:0≤x∧x<big) (hy:0≤y∧y<big):pvf (Qc3 x y) 16=x-y:=by
  have h:pvf (Qc3 x y) 16=pvf (limb x) 16-pvf (limb y) 16:=Qiz _ _ _
  rw [h,Qcy,Qcy,QfZ,Int.emod_eq_of_lt hx.1 hx.2,Int.emod_eq_of_lt hy.1 hy.2]
theorem QgU (x y:Int):∀ k,cr (Qc3 x y) k=0∨cr (Qc3 x y) k=-1
  | 0=>.inl (Qfa _)
  | k+1=>by
    rw [←Qfb]
    have:=QaS x k
    have:=QaS y k
    have h:=QgU x y k
    unfold Qc3 at *
    omega
theorem Qkg (x y:Int) (k:Nat) (hk:k<16) (e:pvf (Qc3 x y) 16=x-y) :
    (limb x k-limb y k - -(cr (Qc3 x y) k)<0→limb x k-limb y k - -(cr (Qc3 x y) k)+65536=limb (x-y) k∧(1:Int)=-(cr (Qc3 x y) (k+1))) ∧
    (¬ limb x k-limb y k - -(cr (Qc3 x y) k)<0→limb x k-limb y k - -(cr (Qc3 x y) k)=limb (x-y) k∧(0:Int)=-(cr (Qc3 x y) (k+1))):=by
  have h1:=Qdt (Qc3 x y) k 16 hk
  have h2:=Qfb (Qc3 x y) k
  have h3:=QaS x k
  have h4:=QaS y k
  have h5:=QgU x y k
  rw [e] at h1
  unfold Qc3 at *
  generalize limb (x-y) k=r at *
  generalize cr (fun i=>limb x i-limb y i) k=c at *
  omega
theorem minus (x y:Int) (hy:0≤y) (hxy:y≤x) (hx:x<big) (w:World):Calls Tryd.prog 84 #[lnum x,lnum y] w (Ret w (lnum (x-y))):=by
  have e:=QfJ x y (by omega) (by omega)
  unfold lnum
  go_enter Tryd.func84,Tryd.ntmps84
  go_wp2_with fail
  go_loopw [5,6] (fun c i wr=>∃ k:Nat,k≤16∧i=.int .i64 k∧c=.int .i64 (-(cr (Qc3 x y) k))∧Ext w wr∧wr.heap[w.heap.size]? = some (.cells (ints .i64 (mix 16 (limb (x-y)) (limb x) k)) 58) ∧
      wr.heap[w.heap.size+1]? = some (.cells (ints .i64 (lims y)) 58)∧∃ b,b.size=16∧wr.heap[w.heap.size+1+1]? = some (.cells b 58)) (fun _ i _=>16-(intOf i).toNat)
  case atStart=>exact ⟨0,by omega,rfl,by rw [Qfa]; rfl,ext3 _ _ _ _,by rw [QdW]; exact QcG _ _ _ _,QbW _ _ _ _,_,rfl,Qb2 _ _ _ _⟩
  case round =>
    obtain ⟨k,hk,rfl,rfl,he,hA,hB,b,hbs,hC⟩:=hrel
    by_cases hlt:k<16
    · have hX:(ints .i64 (mix 16 (limb (x-y)) (limb x) k))[k]? = some (.int .i64 (limb x k)):=by rw [Qar _ _ _ (by rw [mix_len]; exact hlt),QbJ _ _ _ _ _ hlt,if_neg (by omega)]
      have hY:(ints .i64 (lims y))[k]? = some (.int .i64 (limb y k)):=by rw [Qar _ _ _ (by rw [Qa0]; exact hlt),QbZ _ _ hlt]
      have hS:(ints .i64 (mix 16 (limb (x-y)) (limb x) k)).setIfInBounds k (.int .i64 (limb (x-y) k))=ints .i64 (mix 16 (limb (x-y)) (limb x) (k+1)):=by rw [Qbx,mix_set _ _ _ _ hlt]
      have HR:=Lib.hid (Qkg x y k hlt e)
      have h3:=QaS x k
      have h4:=QaS y k
      have h5:=QgU x y k
      generalize hc:cr (Qc3 x y) k=c at *
      generalize hc':cr (Qc3 x y) (k+1)=c' at *
      generalize hlx:limb x k=lx at *
      generalize hly:limb y k=ly at *
      have w1:IntKind.i64.wrap (lx-ly)=lx-ly:=IntWalk.i64_in _ (by omega)
      have w2:IntKind.i64.wrap (lx-ly - -c)=lx-ly - -c:=IntWalk.i64_in _ (by omega)
      have w3:lx-ly - -c<0→IntKind.i64.wrap (lx-ly - -c+65536)=lx-ly - -c+65536:=fun h=>IntWalk.i64_in _ (by omega)
      have HX:Hid (∀ W,Ext wr.drew W→W.cell? ⟨w.heap.size,k,none⟩=some (.int .i64 lx)):=Lib.hid fun W hR=>Qa9 (Qaa (Qaa hA (Qae _)) hR) hX
      have HY:Hid (∀ W,Ext wr.drew W→W.cell? ⟨w.heap.size+1,k,none⟩=some (.int .i64 ly)):=Lib.hid fun W hR=>Qa9 (Qaa (Qaa hB (Qae _)) hR) hY
      go_wp2
      refine Qa1 Ext 9 29 [⟨none,[(6,none)]⟩,⟨none,[(2,none),(12,some 0)]⟩,⟨none,[(13,some 1)]⟩,⟨none,[(6,none)]⟩,⟨none,[(3,none),(15,some 3)]⟩,⟨none,[(16,some 4)]⟩,⟨none,[(14,some 2),(17,some 5)]⟩,⟨none,[(5,none)]⟩,⟨none,[(18,some 6),(19,some 7)]⟩] kj kj rfl Ext.refl Ext.trans (fun F r0 hr hF=>?_)
      have f2:r0 2=.pointer (some ⟨w.heap.size,0,none⟩):=by rw [hr]; rfl
      have f3:r0 3=.pointer (some ⟨w.heap.size+1,0,none⟩):=by rw [hr]; rfl
      have f5:r0 5=.int .i64 (-c):=by rw [hr]; rfl
      have f6:r0 6=.int .i64 k:=by rw [hr]; rfl
      clear hr
      simp only [List.take_succ_cons,List.take_zero]
      repeat
        (try simp only [List.cons_append,List.nil_append]
         apply Qao
         (intro ρ W hR hh
          have hcx:=HX.out W hR
          have hcy:=HY.out W hR
          simp only [QbX,List.getD_cons_zero,List.getD_cons_succ,f2,f3,f5,f6] at hh
          simp only [guarded,QaM]
          go_simp
          first
            | exact ⟨Ext.refl _,rfl⟩
            | exact Ext.refl _))
      simp only [List.cons_append,List.nil_append]
      refine hF.out fun W hRW=>?_
      simp only [List.take_succ_cons,List.take_zero,List.drop_succ_cons,List.drop_zero,fin,forall_eq,Act.put,List.setIfInBounds_toArray,List.set_cons_zero,List.set_cons_succ]
      clear HX HY hF f2 f3 f5 f6
      have hE:=Ext.trans (Qae wr) hRW
      have hA':=Qaa hA hE
      have hB':=Qaa hB hE
      have hC':=Qaa hC hE
      have hcx:=Qa9 hA' hX
      have hfx:=Qbm hA' k
      go_wp2
      all_goals
        have hR:=HR.out
        clear HR
        refine ⟨⟨k+1,by omega,by go_num,?_,QbS (Ext.trans he hE) (qR _) _ _,(QbQ _ _ hA').trans ?_,(Qa3 _ _ (by omega)).trans hB',b,hbs,(Qa3 _ _ (by omega)).trans hC'⟩,by simp [intOf]; omega⟩
      · rw [hc',(hR.1 (by omega)).2]
      · rw [show lx-ly+c+65536=limb (x-y) k by have:=(hR.1 (by omega)).1; omega,hS]
      · rw [hc',(hR.2 (by omega)).2]
      · rw [show lx-ly+c=limb (x-y) k by have:=(hR.2 (by omega)).1; omega,hS]
    · obtain rfl:k=16:=by omega
      go_wp2_with first
        | (with_reducible show wpList _ _ _ ((⟨_,.load 58 _,_,_,_,_⟩:Oper)::_) _ _
           refine wpList_load_row rfl 58 _ rfl w.heap.size rfl 58 _ (0,0) _ hA Tryd.underlying58 rfl (QaY _ (mix_len _ _ _ _)) ?_)
        | (with_reducible show wpList _ _ _ ((⟨_,.store 58 _ _,_,_,_,_⟩:Oper)::_) _ _
           refine wpList_store_row rfl 58 _ _ rfl (w.heap.size+1+1) _ rfl rfl 58 _ hC (QaY _ (mix_len _ _ _ _)) (by rw [hbs,Qad,mix_len]) (ints_one _ _) ?_)
      exact bodyPost_ret (results_cell_row (p:=4) rfl _ _ (w.heap.size+1+1) 58 _ (0,0) _ rfl (setRow_heap _ _ _ _ _ _ hC) Tryd.underlying58 rfl (QaY _ (mix_len _ _ _ _))) rfl ⟨by rw [Qdy _ _ _ _ (qR _)]; rfl,QaA he (by omega) _⟩
end Go.Proofs.YtdoadngmgmdlbaaDoor.Field
end
section
namespace Go.Proofs.YtdoadngmgmdlbaaDoor.Field
open Go Go.RowKit
open Rely
theorem prime (w : World):Calls Tryd.prog 85 #[] w (Ret w (lnum p)):=by
  have e0:lims p=[65517,65535,65535,65535,65535,65535,65535,65535,65535,65535,65535,65535,65535,65535,65535,32767]:=by decide +kernel
  have e:ints .i64 (lims p)=#[.int .i64 65517,.int .i64 65535,.int .i64 65535,.int .i64 65535,.int .i64 65535,.int .i64 65535,.int .i64 65535,.int .i64 65535,.int .i64 65535,.int .i64 65535,.int .i64 65535,.int .i64 65535,.int .i64 65535,.int .i64 65535,.int .i64 65535,.int .i64 32767]:=by
    rw [e0]; rfl
  have hi:=QaY (lims p) (Qa0 p)
  unfold lnum
  rw [e]
  rw [e] at hi
  clear e e0
  go_enter Tryd.func85,Tryd.ntmps85
  go_wp2_with fail
  exact bodyPost_ret (results_cell_row (p:=0) rfl _ _ w.heap.size 58 _ (0,0) _ rfl (heap_alloc_new _ _) Tryd.underlying58 rfl hi) rfl ⟨rfl,QaG _ _⟩
theorem Qe8 (g : Nat→Int) (k:Nat):∀ n,k≤n→(∀ j,k≤j→j<n→g j=0)→pvf g n=pvf g k
  | 0,h,_=>by
      obtain rfl:k=0:=by omega
      rfl
  | n+1,h,hz=>by
    rcases Nat.lt_or_ge n k with h1 | h1
    · obtain rfl:k=n+1:=by omega
      rfl
    · rw [pvf,hz n h1 (by omega),Qe8 g k n h1 fun j a b=>hz j a (by omega)]
      simp
theorem Qlo (x y:Int) (k:Nat):-(65536^k)<pvf (Qc3 x y) k∧pvf (Qc3 x y) k<65536^k:=by
  have h:pvf (Qc3 x y) k=pvf (limb x) k-pvf (limb y) k:=Qiz _ _ _
  have hp:=Qfd k
  have h1:=Int.emod_nonneg x (Int.ne_of_gt hp)
  have h2:=Int.emod_lt_of_pos x hp
  have h3:=Int.emod_nonneg y (Int.ne_of_gt hp)
  have h4:=Int.emod_lt_of_pos y hp
  rw [h,Qcy,Qcy]
  omega
theorem Qip (x y:Int) (hx:0≤x∧x<big) (hy:0≤y∧y<big) (k:Nat) (hk:k<16) (hi:∀ j,k+1≤j→j<16→limb x j=limb y j) (hd:limb x k≠limb y k) :
    decide (limb x k>limb y k)=decide (y≤x):=by
  have e:=QfJ x y hx hy
  rw [Qe8 (Qc3 x y) (k+1) 16 (by omega) fun j a b=>by unfold Qc3; rw [hi j a b]; omega,pvf] at e
  have hl:=Qlo x y k
  have hp:=Qfd k
  refine decide_eq_decide.2 ⟨fun h=>?_,fun h=>?_⟩
  · have h1:1*65536^k≤Qc3 x y k*65536^k:=Int.mul_le_mul_of_nonneg_right (by unfold Qc3; omega) (Int.le_of_lt hp)
    omega
  · rcases (by omega:limb x k>limb y k∨limb x k<limb y k) with h0 | h0
    · exact h0
    · have h1:Qc3 x y k*65536^k≤-1*65536^k:=Int.mul_le_mul_of_nonneg_right (by unfold Qc3; omega) (Int.le_of_lt hp)
      omega
theorem Qms (x y:Int) (hx:0≤x∧x<big) (hy:0≤y∧y<big) (hi:∀ j,0≤j→j<16→limb x j=limb y j):x=y:=by
  have e:=QfJ x y hx hy
  rw [Qe8 (Qc3 x y) 0 16 (by omega) fun j a b=>by unfold Qc3; rw [hi j (by omega) b]; omega,pvf] at e
  omega
theorem QiJ (x y:Int) (hx:0≤x∧x<big) (hy:0≤y∧y<big) (w:World):Calls Tryd.prog 98 #[lnum x,lnum y] w (Ret w (.bool (decide (y≤x)))):=by
  unfold lnum
  go_enter Tryd.func98,Tryd.ntmps98
  go_wp2_with fail
  go_loopw [5] (fun i wr=>∃ k:Nat,k≤16∧i=.int .i64 ((k:Int)-1)∧(∀ j,k≤j→j<16→limb x j=limb y j)∧Ext w wr∧wr.heap[w.heap.size]? = some (.cells (ints .i64 (lims x)) 58) ∧
      wr.heap[w.heap.size+1]? = some (.cells (ints .i64 (lims y)) 58)) (fun i _=>(intOf i+1).toNat)
  case atStart=>exact ⟨16,by omega,rfl,fun j h1 h2=>by omega,Ext.trans (QaG _ _) (QaG _ _),by rw [Below.heap_alloc _ _ _ (by simp)]; exact heap_alloc_new _ _,by have:=heap_alloc_new (w.alloc (.cells (ints .i64 (lims x)) 58)) (.cells (ints .i64 (lims y)) 58); simpa using this⟩
  case round =>
    obtain ⟨k,hk,rfl,hi,he,hA,hB⟩:=hrel
    rcases k with _ | j
    · have e:=Qms x y hx hy hi
      go_wp2
      exact bodyPost_ret (results_tmp rfl _ _ _) rfl ⟨by rw [e]; simp,he⟩
    · have hlt:j<16:=by omega
      have q0:(0:Int)≤(j:Int):=by omega
      have q1:(j:Int)<16:=by omega
      have hX:(ints .i64 (lims x))[j]? = some (.int .i64 (limb x j)):=by rw [Qar _ _ _ (by rw [Qa0]; exact hlt),QbZ _ _ hlt]
      have hY:(ints .i64 (lims y))[j]? = some (.int .i64 (limb y j)):=by rw [Qar _ _ _ (by rw [Qa0]; exact hlt),QbZ _ _ hlt]
      rw [show ((j+1:Nat):Int)-1=(j:Int) by omega]
      have HT:=Lib.hid (Qip x y hx hy j hlt hi)
      have HI:=Lib.hid hi
      clear hi
      generalize hlx:limb x j=lx at *
      generalize hly:limb y j=ly at *
      have HX:Hid (∀ W,Ext wr.drew W→W.cell? ⟨w.heap.size,j,none⟩=some (.int .i64 lx)):=Lib.hid fun W hR=>Qa9 (Qaa (Qaa hA (Qae _)) hR) hX
      have HY:Hid (∀ W,Ext wr.drew W→W.cell? ⟨w.heap.size+1,j,none⟩=some (.int .i64 ly)):=Lib.hid fun W hR=>Qa9 (Qaa (Qaa hB (Qae _)) hR) hY
      go_wp2
      refine Qa1 Ext 6 24 [⟨none,[(5,none)]⟩,⟨none,[(2,none),(10,some 0)]⟩,⟨none,[(11,some 1)]⟩,⟨none,[(5,none)]⟩,⟨none,[(3,none),(13,some 3)]⟩,⟨none,[(14,some 4)]⟩] kj kj rfl Ext.refl Ext.trans (fun F r0 hr hF=>?_)
      have f2:r0 2=.pointer (some ⟨w.heap.size,0,none⟩):=by rw [hr]; rfl
      have f3:r0 3=.pointer (some ⟨w.heap.size+1,0,none⟩):=by rw [hr]; rfl
      have f5:r0 5=.int .i64 j:=by rw [hr]; rfl
      clear hr
      simp only [List.take_succ_cons,List.take_zero]
      repeat
        (try simp only [List.cons_append,List.nil_append]
         apply Qao
         (intro ρ W hR hh
          have hcx:=HX.out W hR
          have hcy:=HY.out W hR
          simp only [QbX,List.getD_cons_zero,List.getD_cons_succ,f2,f3,f5] at hh
          simp only [guarded,QaM]
          go_simp
          first
            | exact ⟨Ext.refl _,rfl⟩
            | exact Ext.refl _))
      simp only [List.cons_append,List.nil_append]
      refine hF.out fun W hRW=>?_
      simp only [List.take_succ_cons,List.take_zero,List.drop_succ_cons,List.drop_zero,fin,forall_eq,Act.put,List.setIfInBounds_toArray,List.set_cons_zero,List.set_cons_succ]
      clear HX HY hF f2 f3 f5
      have hE:=Ext.trans (Qae wr) hRW
      have hA':=Qaa hA hE
      have hB':=Qaa hB hE
      have HX:Hid (∀ V,Ext W.drew V→V.cell? ⟨w.heap.size,j,none⟩=some (.int .i64 lx)):=Lib.hid fun V hR=>Qa9 (Qaa (Qaa hA' (Qae _)) hR) hX
      have HY:Hid (∀ V,Ext W.drew V→V.cell? ⟨w.heap.size+1,j,none⟩=some (.int .i64 ly)):=Lib.hid fun V hR=>Qa9 (Qaa (Qaa hB' (Qae _)) hR) hY
      go_wp2
      · have hne:lx≠ly:=by
          have h:(lx != ly)=true:=by assumption
          simpa using h
        refine Qa1 Ext 7 24 [⟨none,[(5,none)]⟩,⟨none,[(2,none),(17,some 0)]⟩,⟨none,[(18,some 1)]⟩,⟨none,[(5,none)]⟩,⟨none,[(3,none),(20,some 3)]⟩,⟨none,[(21,some 4)]⟩,⟨none,[(19,some 2),(22,some 5)]⟩] kj kj rfl Ext.refl Ext.trans (fun F r0 hr hF=>?_)
        have f2:r0 2=.pointer (some ⟨w.heap.size,0,none⟩):=by rw [hr]; rfl
        have f3:r0 3=.pointer (some ⟨w.heap.size+1,0,none⟩):=by rw [hr]; rfl
        have f5:r0 5=.int .i64 j:=by rw [hr]; rfl
        clear hr
        simp only [List.take_succ_cons,List.take_zero]
        repeat
          (try simp only [List.cons_append,List.nil_append]
           apply Qao
           (intro ρ V hR hh
            have hcx:=HX.out V hR
            have hcy:=HY.out V hR
            simp only [QbX,List.getD_cons_zero,List.getD_cons_succ,f2,f3,f5] at hh
            simp only [guarded,QaM]
            go_simp
            first
              | exact ⟨Ext.refl _,rfl⟩
              | exact Ext.refl _))
        simp only [List.cons_append,List.nil_append]
        refine hF.out fun V hRV=>?_
        simp only [List.take_succ_cons,List.take_zero,List.drop_succ_cons,List.drop_zero,fin,forall_eq,Act.put,List.setIfInBounds_toArray,List.set_cons_zero,List.set_cons_succ]
        go_wp2
        exact bodyPost_ret (results_tmp rfl _ _ _) rfl ⟨by rw [←HT.out hne]; rfl,Ext.trans (Ext.trans (Ext.trans he hE) (Qae _)) hRV⟩
      · have heq:lx=ly:=by
          first
            | (have h:(lx != ly)=false:=by assumption
               simpa using h)
            | (have h:¬ ((lx != ly)=true):=by assumption
               simpa using h)
        refine ⟨⟨j,by omega,rfl,fun i h1 h2=>?_,Ext.trans he hE,hA',hB'⟩,by simp [intOf]⟩
        rcases (by omega:i=j∨j+1≤i) with rfl | h
        · rw [hlx,hly]; exact heq
        · exact HI.out i h h2
end Go.Proofs.YtdoadngmgmdlbaaDoor.Field
end
section
namespace Go.Proofs.YtdoadngmgmdlbaaDoor.Field
open Go Go.RowKit
open Rely
def it : Nat→Int→Int
  | 0,n=>n
  | r+1,n=>QbK (it r n)
theorem Qni (n : Int) (h:0≤n∧n<65536^32) (r:Nat) (hr:r<4):0≤it r n∧it r n<65536^32:=by
  have f:=four n h
  rcases (by omega:r=0∨r=1∨r=2∨r=3) with rfl | rfl | rfl | rfl
  · exact h
  · exact ⟨f.1,f.2.1⟩
  · exact ⟨f.2.2.1,f.2.2.2.1⟩
  · exact ⟨f.2.2.2.2.1,f.2.2.2.2.2.1⟩
theorem Qpl (n : Int) (h:0≤n∧n<65536^32):0≤it 4 n∧it 4 n<65536^16∧it 4 n%57896044618658097711785492504343953926634992332820282019728792003956564819949=n%57896044618658097711785492504343953926634992332820282019728792003956564819949:=by
  have f:=four n h
  exact ⟨f.2.2.2.2.2.2.1,f.2.2.2.2.2.2.2.1,f.2.2.2.2.2.2.2.2⟩
def fmix (S : Int) (k:Nat):List Int:=(List.range 32).map fun i=>if i<k then Qc7 S i else if 16≤i∧i<16+k then 0 else limb S i
theorem Qjz (S : Int) (k:Nat):(fmix S k).length=32:=by simp [fmix]
theorem Qjy (S : Int) (k i:Nat) (hi:i<32):nth (fmix S k) i=if i<k then Qc7 S i else if 16≤i∧i<16+k then 0 else limb S i:=by simp [nth,fmix,hi]
theorem Ql6 (S : Int):fmix S 0=(List.range 32).map (limb S):=by
  unfold fmix
  refine List.map_congr_left fun i hi=>?_
  rw [if_neg (by omega),if_neg (by omega)]
theorem Ql7 (S : Int):fmix S 16=(List.range 32).map (Qc7 S):=by
  unfold fmix
  refine List.map_congr_left fun i hi=>?_
  have:=List.mem_range.1 hi
  by_cases h:i<16
  · rw [if_pos h]
  · rw [if_neg h,if_pos (by omega)]
    unfold Qc7
    rw [if_neg h]
theorem Qnr (S : Int) (k:Nat) (hk:k<16):((fmix S k).set k (limb S k+38*limb S (k+16))).set (k+16) 0=fmix S (k+1):=by
  apply List.ext_getElem
  · simp [fmix]
  · intro i h1 h2
    simp only [fmix,List.getElem_set,List.getElem_map,List.getElem_range]
    rcases (by omega:i=k+16∨i=k∨i<k∨(k<i∧i<16)∨(16≤i∧i<16+k)∨16+k<i) with h | h | h | h | h | h
    · subst h
      rw [if_pos rfl,if_neg (show ¬ k+16<k+1 by omega),if_pos (show 16≤k+16∧k+16<16+(k+1) by omega)]
    · subst h
      rw [if_neg (show ¬ i+16=i by omega),if_pos rfl,if_pos (show i<i+1 by omega)]
      unfold Qc7
      rw [if_pos hk]
    · rw [if_neg (show ¬ k+16=i by omega),if_neg (show ¬ k=i by omega),if_pos h,if_pos (show i<k+1 by omega)]
    · rw [if_neg (show ¬ k+16=i by omega),if_neg (show ¬ k=i by omega),if_neg (show ¬ i<k by omega),if_neg (show ¬ i<k+1 by omega),if_neg (show ¬ (16≤i∧i<16+k) by omega),if_neg (show ¬ (16≤i∧i<16+(k+1)) by omega)]
    · rw [if_neg (show ¬ k+16=i by omega),if_neg (show ¬ k=i by omega),if_neg (show ¬ i<k by omega),if_neg (show ¬ i<k+1 by omega),if_pos (show (16≤i∧i<16+k) by omega),if_pos (show (16≤i∧i<16+(k+1)) by omega)]
    · rw [if_neg (show ¬ k+16=i by omega),if_neg (show ¬ k=i by omega),if_neg (show ¬ i<k by omega),if_neg (show ¬ i<k+1 by omega),if_neg (show ¬ (16≤i∧i<16+k) by omega),if_neg (show ¬ (16≤i∧i<16+(k+1)) by omega)]
def out5 (S : Int) (i:Nat):Int:=if i=15 then limb S 15%32768 else limb S i
def g5 (S : Int) (i:Nat):Int:=out5 S i+(if i=0 then 19*(limb S 15/32768) else 0)
def S5 (S : Int):Int:=S%57896044618658097711785492504343953926634992332820282019728792003956564819968+19*(S/57896044618658097711785492504343953926634992332820282019728792003956564819968)
theorem Qh3 (c : Int):∀ k,pvf (fun i=>if i=0 then c else 0) (k+1)=c
  | 0=>by simp [pvf]
  | k+1=>by
    rw [pvf,Qh3 c k]
    simp
theorem QqF (S : Int) (h:0≤S∧S<65536^16):pvf (g5 S) 16=S5 S:=by
  have e1:pvf (g5 S) 16=pvf (out5 S) 16+pvf (fun i=>if i=0 then 19*(limb S 15/32768) else 0) 16:=QgJ _ _ _
  have e2:pvf (fun i=>if i=0 then 19*(limb S 15/32768) else 0) 16=19*(limb S 15/32768):=Qh3 _ 15
  have e3:pvf (out5 S) 15=pvf (limb S) 15:=Qcz (n:=15) (fun i hi=>by unfold out5; rw [if_neg (by omega)]) 15 (qR _)
  have e4:pvf (out5 S) 16=pvf (out5 S) 15+out5 S 15*65536^15:=rfl
  rw [e1,e2,e4,e3,Qcy]
  unfold out5 S5 limb
  rw [if_pos rfl]
  have f1:(65536:Int)^15=1766847064778384329583297500742918515827483896875618958121606201292619776:=by decide
  have f2:(65536:Int)^16=115792089237316195423570985008687907853269984665640564039457584007913129639936:=by decide
  rw [f1]
  rw [f2] at h
  omega
theorem QjZ (S : Int) (i:Nat):0≤out5 S i∧out5 S i<65536:=by
  unfold out5
  have h1:=QaS S i
  have h2:=QaS S 15
  split <;> omega
theorem QqQ (S : Int) (h:0≤S∧S<65536^16):0≤S5 S∧S5 S<57896044618658097711785492504343953926634992332820282019728792003956564820006 ∧
    S5 S%57896044618658097711785492504343953926634992332820282019728792003956564819949=S%57896044618658097711785492504343953926634992332820282019728792003956564819949:=by
  have f2:(65536:Int)^16=115792089237316195423570985008687907853269984665640564039457584007913129639936:=by decide
  rw [f2] at h
  unfold S5
  omega
theorem Qng (V : Int) (h0:0≤V) (h:V<57896044618658097711785492504343953926634992332820282019728792003956564820006) :
    (57896044618658097711785492504343953926634992332820282019728792003956564819949≤V→V-57896044618658097711785492504343953926634992332820282019728792003956564819949=V%57896044618658097711785492504343953926634992332820282019728792003956564819949) ∧
    (¬ 57896044618658097711785492504343953926634992332820282019728792003956564819949≤V→V=V%57896044618658097711785492504343953926634992332820282019728792003956564819949):=by omega
theorem Ql2 (xs : List Int) (h:xs.length=32):(Tryd.prog.info? 116).map (·.size)=some (ints .i64 xs).size:=by
  rw [Qad,h]
  kernel_rfl
def M : Int:=1125899906842624
theorem small (xs : List Int) (hl:xs.length=32) (hr:∀ i,i<32→0≤nth xs i∧nth xs i≤M) (h0:0≤pvf (nth xs) 32∧pvf (nth xs) 32<65536^32) (w:World) :
    Calls Tryd.prog 86 #[.agg (ints .i64 xs)] w (Ret w (lnum (pvf (nth xs) 32%p))):=by
  generalize hn:pvf (nth xs) 32=n at *
  have hit:=Qni n h0
  have hfour:=Qpl n h0
  go_enter Tryd.func86,Tryd.ntmps86
  go_wp2_with fail
  go_loopw [4] (fun i wr=>∃ r:Nat,r≤4∧i=.int .i64 r∧Ext w wr∧∃ g:Nat→Int,(∀ i,i<32→0≤g i∧g i≤M)∧pvf g 32=it r n∧(1≤r→∀ i,16≤i→g i=0) ∧
      wr.heap[w.heap.size]? = some (.cells (ints .i64 ((List.range 32).map g)) 116)∧(∃ b,b.size=16∧wr.heap[w.heap.size+1]? = some (.cells b 58)) ∧
      wr.heap[w.heap.size+1+1]? = some (.cells (ints .i64 (List.replicate 16 0)) 58)) (fun i _=>4-(intOf i).toNat)
  case atStart=>exact ⟨0,by omega,rfl,ext3 _ _ _ _,nth xs,hr,hn,fun h=>by omega,by rw [Qhz _ _ hl]; exact QcG _ _ _ _,⟨_,rfl,QbW _ _ _ _⟩,Qb2 _ _ _ _⟩
  case round =>
    obtain ⟨r,hr4,rfl,he,g,hg,hgv,hgz,hA,⟨b,hbs,hB⟩,hC⟩:=hrel
    by_cases hlt:r<4
    · clear hgz hfour hr hn hl h0
      have hS:=hit r hlt
      go_wp2
      go_loopw [5,6] (fun c i wq=>∃ k:Nat,k≤32∧i=.int .i64 k∧c=.int .i64 (cr g k)∧Ext w wq∧wq.heap[w.heap.size]? = some (.cells (ints .i64 (mix 32 (limb (it r n)) g k)) 116)∧wq.heap[w.heap.size+1]? = some (.cells b 58) ∧
        wq.heap[w.heap.size+1+1]? = some (.cells (ints .i64 (List.replicate 16 0)) 58)) (fun _ i _=>32-(intOf i).toNat)
      case atStart=>exact ⟨0,by omega,rfl,by rw [Qfa],he,by rw [QdW]; exact hA,hB,hC⟩
      case round =>
        clear hA hB hC he
        obtain ⟨k,hk,rfl,rfl,he,hA,hB,hC⟩:=hrel
        by_cases hk32:k<32
        · have hX:(ints .i64 (mix 32 (limb (it r n)) g k))[k]? = some (.int .i64 (g k)):=by rw [Qar _ _ _ (by rw [mix_len]; exact hk32),QbJ _ _ _ _ _ hk32,if_neg (by omega)]
          have hS1:(ints .i64 (mix 32 (limb (it r n)) g k)).setIfInBounds k (.int .i64 (limb (it r n) k))=ints .i64 (mix 32 (limb (it r n)) g (k+1)):=by rw [Qbx,mix_set _ _ _ _ hk32]
          have e1:=Qdt g k 32 hk32
          have e2:=Qfb g k
          have b1:=hg k hk32
          have b2:=Qhf g M 32 (by decide) hg k (by omega)
          rw [hgv] at e1
          unfold M at b1 b2
          generalize hcn:cr g (k+1)=cn at *
          generalize hcc:cr g k=cc at *
          generalize hgg:g k=gk at *
          have hcx:=Qa9 hA hX
          have hfx:=Qbm hA k
          have w1:IntKind.i64.wrap (gk+cc)=gk+cc:=IntWalk.i64_in _ (by omega)
          have w2:(gk+cc).tmod 65536=(gk+cc)%65536:=Int.tmod_eq_emod_of_nonneg (by omega)
          have w3:IntKind.i64.wrap ((gk+cc)%65536)=(gk+cc)%65536:=IntWalk.i64_in _ (by omega)
          have w4:(gk+cc).tdiv 65536=(gk+cc)/65536:=Int.tdiv_eq_ediv_of_nonneg (by omega)
          have w5:IntKind.i64.wrap ((gk+cc)/65536)=(gk+cc)/65536:=IntWalk.i64_in _ (by omega)
          have HG:=Lib.hid hg
          clear hg
          go_wp2
          exact ⟨⟨k+1,by omega,by go_num,by rw [hcn],QbS he (qR _) _ _,(QbQ _ _ hA).trans (by rw [hS1]),(Qa3 _ _ (by omega)).trans hB,(Qa3 _ _ (by omega)).trans hC⟩,by simp [intOf]; omega⟩
        · obtain rfl:k=32:=by omega
          rw [Qdy _ _ _ _ (qR _),←Ql6] at hA
          have HS:=Lib.hid hS
          have HG:=Lib.hid hgv
          clear hS hgv hg hit
          go_wp2
          go_loopw [8] (fun i wq=>∃ k:Nat,k≤16∧i=.int .i64 k∧Ext w wq∧wq.heap[w.heap.size]? = some (.cells (ints .i64 (fmix (it r n) k)) 116)∧wq.heap[w.heap.size+1]? = some (.cells b 58) ∧
            wq.heap[w.heap.size+1+1]? = some (.cells (ints .i64 (List.replicate 16 0)) 58)) (fun i _=>16-(intOf i).toNat)
          case atStart=>exact ⟨0,by omega,rfl,he,hA,hB,hC⟩
          case round =>
            clear hA hB hC he
            obtain ⟨k,hk,rfl,he,hA,hB,hC⟩:=hrel
            by_cases hk16:k<16
            · have hX:(ints .i64 (fmix (it r n) k))[k]? = some (.int .i64 (limb (it r n) k)):=by rw [Qar _ _ _ (by rw [Qjz]; omega),Qjy _ _ _ (by omega),if_neg (by omega),if_neg (by omega)]
              have hY:(ints .i64 (fmix (it r n) k))[k+16]? = some (.int .i64 (limb (it r n) (k+16))):=by rw [Qar _ _ _ (by rw [Qjz]; omega),Qjy _ _ _ (by omega),if_neg (by omega),if_neg (by omega)]
              have hS1:((ints .i64 (fmix (it r n) k)).setIfInBounds k (.int .i64 (limb (it r n) k+38*limb (it r n) (k+16)))).setIfInBounds (k+16) (.int .i64 0)=ints .i64 (fmix (it r n) (k+1)):=by rw [Qbx,Qbx,Qnr _ _ hk16]
              have b1:=QaS (it r n) k
              have b2:=QaS (it r n) (k+16)
              generalize hlx:limb (it r n) k=lx at *
              generalize hly:limb (it r n) (k+16)=ly at *
              have q1:IntKind.i64.wrap ((k:Int)+16)=(k:Int)+16:=IntWalk.i64_in _ (by omega)
              have q2:((k:Int)+16).toNat=k+16:=by omega
              have q3:(0:Int)≤(k:Int)+16:=by omega
              have q4:(k:Int)+16<32:=by omega
              have q5:(k:Int)<32:=by omega
              have w1:IntKind.i64.wrap (38*ly)=38*ly:=IntWalk.i64_in _ (by omega)
              have w2:IntKind.i64.wrap (lx+38*ly)=lx+38*ly:=IntWalk.i64_in _ (by omega)
              have HX:Hid (∀ W,Ext wr.drew W→W.cell? ⟨w.heap.size,k,none⟩=some (.int .i64 lx)):=Lib.hid fun W hR=>Qa9 (Qaa (Qaa hA (Qae _)) hR) hX
              have HY:Hid (∀ W,Ext wr.drew W→W.cell? ⟨w.heap.size,k+16,none⟩=some (.int .i64 ly)):=Lib.hid fun W hR=>Qa9 (Qaa (Qaa hA (Qae _)) hR) hY
              go_wp2
              refine Qa1 Ext 11 103 [⟨none,[(8,none)]⟩,⟨none,[(8,none)]⟩,⟨none,[(1,none),(39,some 1)]⟩,⟨none,[(40,some 2)]⟩,⟨none,[(8,none)]⟩,⟨none,[(42,some 4)]⟩,⟨none,[(1,none),(43,some 5)]⟩,⟨none,[(44,some 6)]⟩,⟨none,[(45,some 7)]⟩,⟨none,[(41,some 3),(46,some 8)]⟩,⟨none,[(1,none),(38,some 0)]⟩] kj kj rfl Ext.refl Ext.trans (fun F r0 hr hF=>?_)
              have f1:r0 1=.pointer (some ⟨w.heap.size,0,none⟩):=by rw [hr]; rfl
              have f8:r0 8=.int .i64 k:=by rw [hr]; rfl
              clear hr
              simp only [List.take_succ_cons,List.take_zero]
              repeat
                (try simp only [List.cons_append,List.nil_append]
                 apply Qao
                 (intro ρ W hR hh
                  have hcx:=HX.out W hR
                  have hcy:=HY.out W hR
                  simp only [QbX,List.getD_cons_zero,List.getD_cons_succ,f1,f8] at hh
                  simp only [guarded,QaM]
                  go_simp
                  first
                    | exact ⟨Ext.refl _,rfl⟩
                    | exact Ext.refl _))
              simp only [List.cons_append,List.nil_append]
              refine hF.out fun W hRW=>?_
              simp only [List.take_succ_cons,List.take_zero,List.drop_succ_cons,List.drop_zero,fin,forall_eq,Act.put,List.setIfInBounds_toArray,List.set_cons_zero,List.set_cons_succ]
              clear HX HY hF f1 f8
              have hE:=Ext.trans (Qae wr) hRW
              have hA':=Qaa hA hE
              have hB':=Qaa hB hE
              have hC':=Qaa hC hE
              have hcx:=Qa9 hA' hX
              have hfx:=Qbm hA' k
              have hA2:=QbQ k (.int .i64 (lx+38*ly)) hA'
              have hcy:(W.setCell ⟨w.heap.size,k,none⟩ (.int .i64 (lx+38*ly))).cell? ⟨w.heap.size,k+16,none⟩=some (.int .i64 ly):=Qa9 hA2 (by rw [Array.getElem?_setIfInBounds_ne (by omega)]; exact hY)
              have hfy:=Qbm hA2 (k+16)
              go_wp2
              exact ⟨⟨k+1,by omega,by go_num,QbS (QbS (Ext.trans he hE) (qR _) _ _) (qR _) _ _,(QbQ _ _ hA2).trans (by rw [hS1]),(Qa3 _ _ (by omega)).trans ((Qa3 _ _ (by omega)).trans hB'),(Qa3 _ _ (by omega)).trans ((Qa3 _ _ (by omega)).trans hC')⟩,by simp [intOf]; omega⟩
            · obtain rfl:k=16:=by omega
              rw [Ql7] at hA
              have hS:=HS.out
              have hgv:=HG.out
              clear HS HG
              go_wp2
              refine ⟨⟨r+1,by omega,by go_num,he,Qc7 (it r n),fun i _=>?_,Qnq _ hS,fun _ i hi=>?_,hA,⟨b,hbs,hB⟩,hC⟩,by simp [intOf]; omega⟩
              · have:=QhS (it r n) i
                unfold M
                omega
              · unfold Qc7
                rw [if_neg (by omega)]
    · obtain rfl:r=4:=by omega
      have hz:=hgz (by decide)
      have hgv:pvf g 16=it 4 n:=by rw [←hgv,Qe8 g 16 32 (by decide) fun j a _=>hz j a]
      clear hgz hr hn hl h0 hit
      obtain ⟨hN0,hN1,hN2⟩:=hfour
      generalize hN:it 4 n=N at *
      have HN:=Lib.hid (And.intro hN0 (And.intro hN1 hN2))
      clear hN0 hN1 hN2 hN
      rw [show List.replicate 16 (0:Int)=mix 16 (limb N) (fun _=>0) 0 by rw [QdW]; rfl] at hC
      go_wp2
      go_loopw [9,10] (fun c i wq=>∃ k:Nat,k≤16∧i=.int .i64 k∧c=.int .i64 (cr g k)∧Ext w wq∧wq.heap[w.heap.size]? = some (.cells (ints .i64 ((List.range 32).map g)) 116)∧wq.heap[w.heap.size+1]? = some (.cells b 58) ∧
        wq.heap[w.heap.size+1+1]? = some (.cells (ints .i64 (mix 16 (limb N) (fun _=>0) k)) 58)) (fun _ i _=>16-(intOf i).toNat)
      case atStart=>exact ⟨0,by omega,rfl,by rw [Qfa],he,hA,hB,hC⟩
      case round =>
        clear hA hB hC he
        obtain ⟨k,hk,rfl,rfl,he,hA,hB,hC⟩:=hrel
        by_cases hk16:k<16
        · have hX:(ints .i64 ((List.range 32).map g))[k]? = some (.int .i64 (g k)):=by rw [Qar _ _ _ (by simp; omega)]; simp [nth,show k<32 by omega]
          have hY:(ints .i64 (mix 16 (limb N) (fun _=>0) k))[k]? = some (.int .i64 0):=by rw [Qar _ _ _ (by rw [mix_len]; exact hk16),QbJ _ _ _ _ _ hk16,if_neg (by omega)]
          have hS1:(ints .i64 (mix 16 (limb N) (fun _=>0) k)).setIfInBounds k (.int .i64 (limb N k))=ints .i64 (mix 16 (limb N) (fun _=>0) (k+1)):=by rw [Qbx,mix_set _ _ _ _ hk16]
          have e1:=Qdt g k 16 hk16
          have e2:=Qfb g k
          have b1:=hg k (by omega)
          have b2:=Qhf g M 32 (by decide) hg k (by omega)
          rw [hgv] at e1
          unfold M at b1 b2
          generalize hcn:cr g (k+1)=cn at *
          generalize hcc:cr g k=cc at *
          generalize hgg:g k=gk at *
          have q5:(k:Int)<32:=by omega
          have hcx:=Qa9 hA hX
          have hcy:=Qa9 hC hY
          have hfx:=Qbm hC k
          have w1:IntKind.i64.wrap (gk+cc)=gk+cc:=IntWalk.i64_in _ (by omega)
          have w2:(gk+cc).tmod 65536=(gk+cc)%65536:=Int.tmod_eq_emod_of_nonneg (by omega)
          have w3:IntKind.i64.wrap ((gk+cc)%65536)=(gk+cc)%65536:=IntWalk.i64_in _ (by omega)
          have w4:(gk+cc).tdiv 65536=(gk+cc)/65536:=Int.tdiv_eq_ediv_of_nonneg (by omega)
          have w5:IntKind.i64.wrap ((gk+cc)/65536)=(gk+cc)/65536:=IntWalk.i64_in _ (by omega)
          have HG:=Lib.hid hg
          clear hg hz
          go_wp2
          exact ⟨⟨k+1,by omega,by go_num,by rw [hcn],QbS he (by omega) _ _,(Qa3 _ _ (by omega)).trans hA,(Qa3 _ _ (by omega)).trans hB,(QbQ _ _ hC).trans (by rw [hS1])⟩,by simp [intOf]; omega⟩
        · obtain rfl:k=16:=by omega
          clear hg hz hgv hA
          have hX:(ints .i64 (mix 16 (limb N) (fun _=>0) 16))[15]? = some (.int .i64 (limb N 15)):=by rw [Qar _ _ _ (by rw [mix_len]; decide),QbJ _ _ _ _ _ (by decide),if_pos (by decide)]
          have hY:(ints .i64 (mix 16 (limb N) (fun _=>0) 16))[0]? = some (.int .i64 (limb N 0)):=by rw [Qar _ _ _ (by rw [mix_len]; decide),QbJ _ _ _ _ _ (by decide),if_pos (by decide)]
          have hS1:(ints .i64 (mix 16 (limb N) (fun _=>0) 16)).setIfInBounds 15 (.int .i64 (limb N 15%32768))=ints .i64 (mix 16 (limb (S5 N)) (out5 N) 0):=by
            rw [Qbx]
            refine congrArg (ints .i64) (List.ext_getElem (by simp [mix]) fun i h1 h2=>?_)
            have h3:i<16:=by simpa [mix] using h2
            simp only [mix,List.getElem_set,List.getElem_map,List.getElem_range]
            unfold out5
            by_cases h:i=15
            · subst h; simp
            · rw [if_neg (show ¬ 15=i by omega),if_pos h3,if_neg (show ¬ i<0 by omega),if_neg h]
          have b1:=QaS N 15
          have b2:=QaS N 0
          have eg0:limb N 0+19*(limb N 15/32768)=g5 N 0+cr (g5 N) 0:=by
            rw [Qfa]
            unfold g5 out5
            simp
          generalize hm0:g5 N 0+cr (g5 N) 0=m0 at *
          generalize hlx:limb N 15=lx at *
          generalize hly:limb N 0=ly at *
          have w1:lx.tdiv 32768=lx/32768:=Int.tdiv_eq_ediv_of_nonneg (by omega)
          have w2:IntKind.i64.wrap (lx/32768)=lx/32768:=IntWalk.i64_in _ (by omega)
          have w3:lx.tmod 32768=lx%32768:=Int.tmod_eq_emod_of_nonneg (by omega)
          have w4:IntKind.i64.wrap (lx%32768)=lx%32768:=IntWalk.i64_in _ (by omega)
          have w5:IntKind.i64.wrap (19*(lx/32768))=19*(lx/32768):=IntWalk.i64_in _ (by omega)
          have w6:IntKind.i64.wrap (ly+19*(lx/32768))=ly+19*(lx/32768):=IntWalk.i64_in _ (by omega)
          have hcx:=Qa9 hC hX
          have hfx:=Qbm hC 15
          have hC2:=QbQ 15 (.int .i64 (lx%32768)) hC
          have hcy:(wr.setCell ⟨w.heap.size+1+1,15,none⟩ (.int .i64 (lx%32768))).cell? ⟨w.heap.size+1+1,0,none⟩=some (.int .i64 ly):=Qa9 hC2 (by rw [Array.getElem?_setIfInBounds_ne (by decide)]; exact hY)
          rw [hS1] at hC2
          have hB2:=(Qa3 (W:=wr) 15 (.int .i64 (lx%32768)) (show w.heap.size+1≠w.heap.size+1+1 by omega)).trans hB
          have he2:=QbS he (show w.heap.size≤w.heap.size+1+1 by omega) 15 (.int .i64 (lx%32768))
          generalize hwz:wr.setCell ⟨w.heap.size+1+1,15,none⟩ (.int .i64 (lx%32768))=wz at *
          go_wp2
          clear hcx hfx hcy hX hY hS1 hC hB he hwz w1 w2 w3 w4 w5 w6
          go_loopw [13,14] (fun c i wq=>∃ k:Nat,k≤16∧i=.int .i64 k∧(∃ m:Int,c=.int .i64 m∧0≤m∧m≤4611686018427387904∧(k<16→m=g5 N k+cr (g5 N) k))∧Ext w wq∧wq.heap[w.heap.size+1]? = some (.cells b 58) ∧
            wq.heap[w.heap.size+1+1]? = some (.cells (ints .i64 (mix 16 (limb (S5 N)) (out5 N) k)) 58)) (fun _ i _=>16-(intOf i).toNat)
          case atStart=>exact ⟨0,by omega,rfl,⟨_,rfl,by omega,by omega,fun _=>by rw [hm0]⟩,he2,hB2,hC2⟩
          case round =>
            clear he2 hB2 hC2 eg0 hm0 b1 b2
            obtain ⟨k,hk,rfl,⟨m,rfl,hm0,hm1,hme⟩,he,hB,hC⟩:=hrel
            by_cases hk16:k<16
            · have hme':=hme hk16
              have hX:(ints .i64 (mix 16 (limb (S5 N)) (out5 N) k))[k]? = some (.int .i64 (out5 N k)):=by rw [Qar _ _ _ (by rw [mix_len]; exact hk16),QbJ _ _ _ _ _ hk16,if_neg (by omega)]
              have hS1:(ints .i64 (mix 16 (limb (S5 N)) (out5 N) k)).setIfInBounds k (.int .i64 (limb (S5 N) k))=ints .i64 (mix 16 (limb (S5 N)) (out5 N) (k+1)):=by rw [Qbx,mix_set _ _ _ _ hk16]
              have e1:=Qdt (g5 N) k 16 hk16
              have e2:=Qfb (g5 N) k
              rw [QqF N ⟨HN.out.1,HN.out.2.1⟩,←hme'] at e1
              rw [←hme'] at e2
              have hcx:=Qa9 hC hX
              have hfx:=Qbm hC k
              have hC2:=QbQ k (.int .i64 (limb (S5 N) k)) hC
              have hB2:=(Qa3 (W:=wr) k (.int .i64 (limb (S5 N) k)) (show w.heap.size+1≠w.heap.size+1+1 by omega)).trans hB
              have he2:=QbS he (show w.heap.size≤w.heap.size+1+1 by omega) k (.int .i64 (limb (S5 N) k))
              rw [hS1] at hC2
              have w2:m.tmod 65536=m%65536:=Int.tmod_eq_emod_of_nonneg hm0
              have w3:IntKind.i64.wrap (m%65536)=m%65536:=IntWalk.i64_in _ (by omega)
              have w4:m.tdiv 65536=m/65536:=Int.tdiv_eq_ediv_of_nonneg hm0
              have w5:IntKind.i64.wrap (m/65536)=m/65536:=IntWalk.i64_in _ (by omega)
              by_cases hk15:k<15
              · have hZ:(ints .i64 (mix 16 (limb (S5 N)) (out5 N) (k+1)))[k+1]? = some (.int .i64 (out5 N (k+1))):=by rw [Qar _ _ _ (by rw [mix_len]; omega),QbJ _ _ _ _ _ (by omega),if_neg (by omega)]
                have hcz:=Qa9 hC2 hZ
                have hor:=QjZ N (k+1)
                have hgn:out5 N (k+1)+cr (g5 N) (k+1)=g5 N (k+1)+cr (g5 N) (k+1):=by
                  unfold g5
                  rw [if_neg (show ¬ k+1=0 by omega)]
                  omega
                have q1:IntKind.i64.wrap ((k:Int)+1)=(k:Int)+1:=IntWalk.i64_in _ (by omega)
                have q2:((k:Int)+1).toNat=k+1:=by omega
                have q3:(0:Int)≤(k:Int)+1:=by omega
                have q4:(k:Int)+1<16:=by omega
                have q5:(k:Int)<15:=by omega
                rw [←e2] at hgn
                have Hgn:=Lib.hid hgn
                clear hgn hme hme'
                generalize hoz:out5 N (k+1)=oz at *
                generalize hwz:wr.setCell ⟨w.heap.size+1+1,k,none⟩ (.int .i64 (limb (S5 N) k))=wz at *
                have w6:IntKind.i64.wrap (oz+m/65536)=oz+m/65536:=IntWalk.i64_in _ (by omega)
                go_wp2
                exact ⟨⟨k+1,by omega,by go_num,⟨_,rfl,by omega,by omega,fun _=>by have:=Hgn.out; omega⟩,he2,hB2,hC2⟩,by simp [intOf]; omega⟩
              · obtain rfl:k=15:=by omega
                clear hme hme'
                generalize hwz:wr.setCell ⟨w.heap.size+1+1,15,none⟩ (.int .i64 (limb (S5 N) 15))=wz at *
                go_wp2
                exact ⟨⟨16,by omega,rfl,⟨m,rfl,hm0,hm1,fun h=>by omega⟩,he2,hB2,hC2⟩,by simp [intOf]⟩
            · obtain rfl:k=16:=by omega
              clear hme
              have hV:=QqQ N ⟨HN.out.1,HN.out.2.1⟩
              have hL:=Qng (S5 N) hV.1 hV.2.1
              have hres:lnum (S5 N%p)=lnum (n%p):=by
                have:=HN.out.2.2
                unfold p
                rw [hV.2.2,this]
              rw [Qdy _ _ _ _ (qR _)] at hC
              have hC:wr.heap[w.heap.size+1+1]? = some (.cells (ints .i64 (lims (S5 N))) 58):=hC
              clear HN
              generalize hVV:S5 N=V at *
              have hp0:(0:Int)≤p∧p<big:=by decide
              have hVb:0≤V∧V<big:=by unfold big; omega
              by_cases hge:p≤V
              · have hv:V-p=V%p:=hL.1 hge
                have hvb:0≤V%p∧V%p<p:=⟨Int.emod_nonneg _ (by decide),Int.emod_lt_of_pos _ (by decide)⟩
                have HA:Hid (∀ w,Calls Tryd.prog 98 #[.agg (ints .i64 (lims V)),.agg (ints .i64 (lims p))] w (Ret w (.bool true))):=Lib.hid fun w=>by
                  have:=QiJ V p hVb hp0 w
                  rw [decide_eq_true hge] at this
                  exact this
                have HA2:Hid (∀ w,Calls Tryd.prog 98 #[.agg (ints .i64 (lims (V%p))),.agg (ints .i64 (lims p))] w (Ret w (.bool false))):=Lib.hid fun w=>by
                  have:=QiJ (V%p) p ⟨hvb.1,by omega⟩ hp0 w
                  rw [decide_eq_false (by omega)] at this
                  exact this
                have HM:Hid (∀ w,Calls Tryd.prog 84 #[.agg (ints .i64 (lims V)),.agg (ints .i64 (lims p))] w (Ret w (.agg (ints .i64 (lims (V%p)))))):=Lib.hid fun w=>by
                  have:=minus V p hp0.1 hge hVb.2 w
                  rw [hv] at this
                  exact this
                generalize hR:V%p=R at *
                have HRES:=Lib.hid hres
                clear hres
                clear hv hvb hge hVb hL hV hVV hR
                go_wp2
                refine wp_loop_rounds 3 ?_
                rw [rounds_succ]
                go_wp2
                refine Qa1 Ext 2 103 [⟨none,[(3,none)]⟩,⟨none,[]⟩] kj kj rfl Ext.refl Ext.trans (fun F r0 hr hF=>?_)
                have f3:r0 3=.pointer (some ⟨w.heap.size+1+1,0,none⟩):=by rw [hr]; rfl
                clear hr
                simp only [List.take_succ_cons,List.take_zero]
                refine Qao (.agg (ints .i64 (lims V))) (fun ρ W hR hh=>?_) ?_
                · exact Qa6 58 (.tmp _) rfl _ (Eq.trans hh.1 f3) 58 _ (0,0) _ (Qaa (Qaa hC (Qae _)) hR) Tryd.underlying58 rfl (QaY _ (Qa0 _))
                refine Qao (.agg (ints .i64 (lims p))) (fun ρ W hR hh=>?_) ?_
                · simp only [guarded,QaM]
                  go_simp
                  exact ⟨Ext.refl _,(prime _).mono fun _ _ h=>h.const⟩
                simp only [List.cons_append,List.nil_append]
                refine hF.out fun W1 hR1=>?_
                simp only [List.take_succ_cons,List.take_zero,List.drop_succ_cons,List.drop_zero,fin,forall_eq,Act.put,List.setIfInBounds_toArray,List.set_cons_zero,List.set_cons_succ]
                clear hF f3
                go_wp2_with first
                  | (go_at_call 98
                     (with_reducible refine (HA.out _).mono ?_)
                     clear HA
                     rintro e w' ⟨rfl,hw⟩)
                have hBy:=Qaa (Qaa (Qaa hB (Qae _)) hR1) hw
                have hCy:=Qaa (Qaa (Qaa hC (Qae _)) hR1) hw
                have hey:=Ext.trans (Ext.trans (Ext.trans he (Qae _)) hR1) hw
                clear hB hC he hw hR1
                refine Qa1 Ext 2 103 [⟨none,[(3,none)]⟩,⟨none,[]⟩] kj kj rfl Ext.refl Ext.trans (fun F r0 hr hF=>?_)
                have f3:r0 3=.pointer (some ⟨w.heap.size+1+1,0,none⟩):=by rw [hr]; rfl
                clear hr
                simp only [List.take_succ_cons,List.take_zero]
                refine Qao (.agg (ints .i64 (lims V))) (fun ρ W hR hh=>?_) ?_
                · exact Qa6 58 (.tmp _) rfl _ (Eq.trans hh.1 f3) 58 _ (0,0) _ (Qaa (Qaa hCy (Qae _)) hR) Tryd.underlying58 rfl (QaY _ (Qa0 _))
                refine Qao (.agg (ints .i64 (lims p))) (fun ρ W hR hh=>?_) ?_
                · simp only [guarded,QaM]
                  go_simp
                  exact ⟨Ext.refl _,(prime _).mono fun _ _ h=>h.const⟩
                simp only [List.cons_append,List.nil_append]
                refine hF.out fun W2 hR2=>?_
                simp only [List.take_succ_cons,List.take_zero,List.drop_succ_cons,List.drop_zero,fin,forall_eq,Act.put,List.setIfInBounds_toArray,List.set_cons_zero,List.set_cons_succ]
                clear hF f3
                go_wp2_with first
                  | (go_at_call 84
                     (with_reducible refine (HM.out _).mono ?_)
                     clear HM
                     rintro e w'' ⟨rfl,hw⟩
                     have hBx:=Qaa (Qaa (Qaa hBy (Qae _)) hR2) hw
                     have hCx:=Qaa (Qaa (Qaa hCy (Qae _)) hR2) hw
                     have hex:=Ext.trans (Ext.trans (Ext.trans hey (Qae _)) hR2) hw)
                  | (with_reducible show wpList _ _ _ ((⟨_,.store 58 _ _,_,_,_,_⟩:Oper)::_) _ _
                     refine wpList_store_row rfl 58 _ _ rfl (w.heap.size+1+1) _ rfl rfl 58 _ hCx (QaY _ (Qa0 _)) (by rw [Qad,Qad,Qa0,Qa0]) (ints_one _ _) ?_)
                have hCv:(w''.setRow (w.heap.size+1+1) (ints .i64 (lims R))).heap[w.heap.size+1+1]? = some (.cells (ints .i64 (lims R)) 58):=setRow_heap _ _ _ _ _ _ hCx
                have hBv:=(setRow_other w'' (w.heap.size+1+1) (w.heap.size+1) (ints .i64 (lims R)) (by omega)).trans hBx
                have hev:=QaA hex (show w.heap.size≤w.heap.size+1+1 by omega) (ints .i64 (lims R))
                generalize w''.setRow (w.heap.size+1+1) (ints .i64 (lims R))=wv at *
                clear hCx hBx hex hw hCy hBy hey hR2
                rw [rounds_succ]
                go_wp2
                refine Qa1 Ext 2 103 [⟨none,[(3,none)]⟩,⟨none,[]⟩] kj kj rfl Ext.refl Ext.trans (fun F r0 hr hF=>?_)
                have f3:r0 3=.pointer (some ⟨w.heap.size+1+1,0,none⟩):=by rw [hr]; rfl
                clear hr
                simp only [List.take_succ_cons,List.take_zero]
                refine Qao (.agg (ints .i64 (lims R))) (fun ρ W hR hh=>?_) ?_
                · exact Qa6 58 (.tmp _) rfl _ (Eq.trans hh.1 f3) 58 _ (0,0) _ (Qaa (Qaa hCv (Qae _)) hR) Tryd.underlying58 rfl (QaY _ (Qa0 _))
                refine Qao (.agg (ints .i64 (lims p))) (fun ρ W hR hh=>?_) ?_
                · simp only [guarded,QaM]
                  go_simp
                  exact ⟨Ext.refl _,(prime _).mono fun _ _ h=>h.const⟩
                simp only [List.cons_append,List.nil_append]
                refine hF.out fun W3 hR3=>?_
                simp only [List.take_succ_cons,List.take_zero,List.drop_succ_cons,List.drop_zero,fin,forall_eq,Act.put,List.setIfInBounds_toArray,List.set_cons_zero,List.set_cons_succ]
                clear hF f3
                go_wp2_with first
                  | (go_at_call 98
                     (with_reducible refine (HA2.out _).mono ?_)
                     clear HA2
                     rintro e w4 ⟨rfl,hw4⟩
                     have hBz:=Qaa (Qaa (Qaa hBv (Qae _)) hR3) hw4
                     have hCz:=Qaa (Qaa (Qaa hCv (Qae _)) hR3) hw4
                     have hez:=Ext.trans (Ext.trans (Ext.trans hev (Qae _)) hR3) hw4
                     clear hw4)
                  | (with_reducible show wpList _ _ _ ((⟨_,.load 58 _,_,_,_,_⟩:Oper)::_) _ _
                     refine wpList_load_row rfl 58 _ rfl (w.heap.size+1+1) rfl 58 _ (0,0) _ hCz Tryd.underlying58 rfl (QaY _ (Qa0 _)) ?_)
                  | (with_reducible show wpList _ _ _ ((⟨_,.store 58 _ _,_,_,_,_⟩:Oper)::_) _ _
                     refine wpList_store_row rfl 58 _ _ rfl (w.heap.size+1) _ rfl rfl 58 _ hBz (QaY _ (Qa0 _)) (by rw [hbs,Qad,Qa0]) (ints_one _ _) ?_)
                exact bodyPost_ret (results_cell_row (p:=2) rfl _ _ (w.heap.size+1) 58 _ (0,0) _ rfl (setRow_heap _ _ _ _ _ _ hBz) Tryd.underlying58 rfl (QaY _ (Qa0 _))) rfl ⟨by rw [←HRES.out]; rfl,QaA hez (by omega) _⟩
              · have hv:V=V%p:=hL.2 hge
                have HA:Hid (∀ w,Calls Tryd.prog 98 #[.agg (ints .i64 (lims V)),.agg (ints .i64 (lims p))] w (Ret w (.bool false))):=Lib.hid fun w=>by
                  have:=QiJ V p hVb hp0 w
                  rw [decide_eq_false hge] at this
                  exact this
                rw [←hv] at hres
                have HRES:=Lib.hid hres
                clear hres
                clear hv hge hVb hL hV hVV
                go_wp2
                refine wp_loop_rounds 2 ?_
                rw [rounds_succ]
                go_wp2
                refine Qa1 Ext 2 103 [⟨none,[(3,none)]⟩,⟨none,[]⟩] kj kj rfl Ext.refl Ext.trans (fun F r0 hr hF=>?_)
                have f3:r0 3=.pointer (some ⟨w.heap.size+1+1,0,none⟩):=by rw [hr]; rfl
                clear hr
                simp only [List.take_succ_cons,List.take_zero]
                refine Qao (.agg (ints .i64 (lims V))) (fun ρ W hR hh=>?_) ?_
                · exact Qa6 58 (.tmp _) rfl _ (Eq.trans hh.1 f3) 58 _ (0,0) _ (Qaa (Qaa hC (Qae _)) hR) Tryd.underlying58 rfl (QaY _ (Qa0 _))
                refine Qao (.agg (ints .i64 (lims p))) (fun ρ W hR hh=>?_) ?_
                · simp only [guarded,QaM]
                  go_simp
                  exact ⟨Ext.refl _,(prime _).mono fun _ _ h=>h.const⟩
                simp only [List.cons_append,List.nil_append]
                refine hF.out fun W1 hR1=>?_
                simp only [List.take_succ_cons,List.take_zero,List.drop_succ_cons,List.drop_zero,fin,forall_eq,Act.put,List.setIfInBounds_toArray,List.set_cons_zero,List.set_cons_succ]
                clear hF f3
                go_wp2_with first
                  | (go_at_call 98
                     (with_reducible refine (HA.out _).mono ?_)
                     clear HA
                     rintro e w4 ⟨rfl,hw4⟩
                     have hBz:=Qaa (Qaa (Qaa hB (Qae _)) hR1) hw4
                     have hCz:=Qaa (Qaa (Qaa hC (Qae _)) hR1) hw4
                     have hez:=Ext.trans (Ext.trans (Ext.trans he (Qae _)) hR1) hw4
                     clear hw4)
                  | (with_reducible show wpList _ _ _ ((⟨_,.load 58 _,_,_,_,_⟩:Oper)::_) _ _
                     refine wpList_load_row rfl 58 _ rfl (w.heap.size+1+1) rfl 58 _ (0,0) _ hCz Tryd.underlying58 rfl (QaY _ (Qa0 _)) ?_)
                  | (with_reducible show wpList _ _ _ ((⟨_,.store 58 _ _,_,_,_,_⟩:Oper)::_) _ _
                     refine wpList_store_row rfl 58 _ _ rfl (w.heap.size+1) _ rfl rfl 58 _ hBz (QaY _ (Qa0 _)) (by rw [hbs,Qad,Qa0]) (ints_one _ _) ?_)
                exact bodyPost_ret (results_cell_row (p:=2) rfl _ _ (w.heap.size+1) 58 _ (0,0) _ rfl (setRow_heap _ _ _ _ _ _ hBz) Tryd.underlying58 rfl (QaY _ (Qa0 _))) rfl ⟨by rw [←HRES.out]; rfl,QaA hez (by omega) _⟩
end Go.Proofs.YtdoadngmgmdlbaaDoor.Field
end
section
namespace Go.Proofs.YtdoadngmgmdlbaaDoor.Field
open Go Go.RowKit
open Rely
theorem ext4 (w : World) (a b c d:Obj):Ext w ((((w.alloc a).alloc b).alloc c).alloc d):=Ext.trans (ext3 w a b c) (QaG _ _)
theorem Qhl (w : World) (a b c d:Obj):((((w.alloc a).alloc b).alloc c).alloc d).heap[w.heap.size]? = some a:=by
  rw [Below.heap_alloc _ _ _ (by simp only [World.size_alloc]; omega)]; exact QcG _ _ _ _
theorem Qhk (w : World) (a b c d:Obj):((((w.alloc a).alloc b).alloc c).alloc d).heap[w.heap.size+1]? = some b:=by
  rw [Below.heap_alloc _ _ _ (by simp only [World.size_alloc]; omega)]; exact QbW _ _ _ _
theorem Qhj (w : World) (a b c d:Obj):((((w.alloc a).alloc b).alloc c).alloc d).heap[w.heap.size+1+1]? = some c:=by
  rw [Below.heap_alloc _ _ _ (by simp only [World.size_alloc]; omega)]; exact Qb2 _ _ _ _
theorem Qhi (w : World) (a b c d:Obj):((((w.alloc a).alloc b).alloc c).alloc d).heap[w.heap.size+1+1+1]? = some d:=by
  have:=heap_alloc_new (((w.alloc a).alloc b).alloc c) d
  simpa using this
theorem QkN (f : Nat→Int) (k:Nat) (hk:k≤32):pvf (nth (mix 32 f (fun _=>0) k)) 32=pvf f k:=by
  rw [Qe8 (nth (mix 32 f (fun _=>0) k)) k 32 hk fun j a b=>by rw [QbJ _ _ _ _ _ b,if_neg (by omega)]]
  exact Qcz (n:=k) (fun i hi=>by rw [QbJ _ _ _ _ _ (by omega),if_pos hi]) k (qR _)
theorem QhI (f : Nat→Int) (k:Nat) (hf:∀ i,i<k→0≤f i∧f i≤M) (i:Nat) (hi:i<32):0≤nth (mix 32 f (fun _=>0) k) i∧nth (mix 32 f (fun _=>0) k) i≤M:=by
  rw [QbJ _ _ _ _ _ hi]
  split
  · exact hf i (by assumption)
  · decide
theorem Qft (x : Int) (hx:0≤x∧x<big):pvf (limb x) 16=x:=by rw [Qcy,QfZ,Int.emod_eq_of_lt hx.1 hx.2]
theorem Qo6 : (65536:Int)^32=big*big:=by decide
theorem lAdd (x y:Int) (hx:0≤x∧x<big) (hy:0≤y∧y<big) (w:World):Calls Tryd.prog 73 #[lnum x,lnum y] w (Ret w (lnum ((x+y)%p))):=by
  have HC:Hid (∀ w,Calls Tryd.prog 86 #[.agg (ints .i64 (mix 32 (fun i=>limb x i+limb y i) (fun _=>0) 16))] w (Ret w (lnum ((x+y)%p)))):=Lib.hid fun w=>by
    have hv:pvf (nth (mix 32 (fun i=>limb x i+limb y i) (fun _=>0) 16)) 32=x+y:=by
      rw [QkN _ _ (by decide),QgJ,Qft x hx,Qft y hy]
    have:=small (mix 32 (fun i=>limb x i+limb y i) (fun _=>0) 16) (mix_len _ _ _ _) (QhI _ 16 fun i _=>by
      have:=QaS x i
      have:=QaS y i
      unfold M
      omega) (by rw [hv,Qo6]; unfold big at *; omega) w
    rw [hv] at this
    exact this
  unfold lnum at HC ⊢
  generalize hr:lims ((x+y)%p)=res at *
  have hrl:res.length=16:=by rw [←hr]; exact Qa0 _
  clear hr
  go_enter Tryd.func73,Tryd.ntmps73
  go_wp2_with fail
  go_loopw [6] (fun i wr=>∃ k:Nat,k≤16∧i=.int .i64 k∧Ext w wr∧wr.heap[w.heap.size]? = some (.cells (ints .i64 (lims x)) 58)∧wr.heap[w.heap.size+1]? = some (.cells (ints .i64 (lims y)) 58) ∧
    (∃ b,b.size=16∧wr.heap[w.heap.size+1+1]? = some (.cells b 58))∧wr.heap[w.heap.size+1+1+1]? = some (.cells (ints .i64 (mix 32 (fun i=>limb x i+limb y i) (fun _=>0) k)) 116)) (fun i _=>16-(intOf i).toNat)
  case atStart=>exact ⟨0,by omega,rfl,ext4 _ _ _ _ _,Qhl _ _ _ _ _,Qhk _ _ _ _ _,⟨_,rfl,Qhj _ _ _ _ _⟩,Qhi _ _ _ _ _⟩
  case round =>
    obtain ⟨k,hk,rfl,he,hA,hB,⟨b,hbs,hC⟩,hD⟩:=hrel
    by_cases hlt:k<16
    · have hX:(ints .i64 (lims x))[k]? = some (.int .i64 (limb x k)):=by rw [Qar _ _ _ (by rw [Qa0]; exact hlt),QbZ _ _ hlt]
      have hY:(ints .i64 (lims y))[k]? = some (.int .i64 (limb y k)):=by rw [Qar _ _ _ (by rw [Qa0]; exact hlt),QbZ _ _ hlt]
      have hZ:(ints .i64 (mix 32 (fun i=>limb x i+limb y i) (fun _=>0) k))[k]? = some (.int .i64 0):=by rw [Qar _ _ _ (by rw [mix_len]; omega),QbJ _ _ _ _ _ (by omega),if_neg (by omega)]
      have hS:(ints .i64 (mix 32 (fun i=>limb x i+limb y i) (fun _=>0) k)).setIfInBounds k (.int .i64 (limb x k+limb y k))=ints .i64 (mix 32 (fun i=>limb x i+limb y i) (fun _=>0) (k+1)):=by
        rw [Qbx,←mix_set _ _ _ _ (by omega)]
      have h3:=QaS x k
      have h4:=QaS y k
      generalize hlx:limb x k=lx at *
      generalize hly:limb y k=ly at *
      have w1:IntKind.i64.wrap (lx+ly)=lx+ly:=IntWalk.i64_in _ (by omega)
      have q5:(k:Int)<32:=by omega
      have HX:Hid (∀ W,Ext wr.drew W→W.cell? ⟨w.heap.size,k,none⟩=some (.int .i64 lx)):=Lib.hid fun W hR=>Qa9 (Qaa (Qaa hA (Qae _)) hR) hX
      have HY:Hid (∀ W,Ext wr.drew W→W.cell? ⟨w.heap.size+1,k,none⟩=some (.int .i64 ly)):=Lib.hid fun W hR=>Qa9 (Qaa (Qaa hB (Qae _)) hR) hY
      go_wp2
      refine Qa1 Ext 9 22 [⟨none,[(6,none)]⟩,⟨none,[(6,none)]⟩,⟨none,[(2,none),(12,some 1)]⟩,⟨none,[(13,some 2)]⟩,⟨none,[(6,none)]⟩,⟨none,[(3,none),(15,some 4)]⟩,⟨none,[(16,some 5)]⟩,⟨none,[(14,some 3),(17,some 6)]⟩,⟨none,[(5,none),(11,some 0)]⟩] kj kj rfl Ext.refl Ext.trans (fun F r0 hr hF=>?_)
      have f2:r0 2=.pointer (some ⟨w.heap.size,0,none⟩):=by rw [hr]; rfl
      have f3:r0 3=.pointer (some ⟨w.heap.size+1,0,none⟩):=by rw [hr]; rfl
      have f5:r0 5=.pointer (some ⟨w.heap.size+1+1+1,0,none⟩):=by rw [hr]; rfl
      have f6:r0 6=.int .i64 k:=by rw [hr]; rfl
      clear hr
      simp only [List.take_succ_cons,List.take_zero]
      repeat
        (try simp only [List.cons_append,List.nil_append]
         apply Qao
         (intro ρ W hR hh
          have hcx:=HX.out W hR
          have hcy:=HY.out W hR
          simp only [QbX,List.getD_cons_zero,List.getD_cons_succ,f2,f3,f5,f6] at hh
          simp only [guarded,QaM]
          go_simp
          first
            | exact ⟨Ext.refl _,rfl⟩
            | exact Ext.refl _))
      simp only [List.cons_append,List.nil_append]
      refine hF.out fun W hRW=>?_
      simp only [List.take_succ_cons,List.take_zero,List.drop_succ_cons,List.drop_zero,fin,forall_eq,Act.put,List.setIfInBounds_toArray,List.set_cons_zero,List.set_cons_succ]
      clear HX HY hF f2 f3 f5 f6
      have hE:=Ext.trans (Qae wr) hRW
      have hA':=Qaa hA hE
      have hB':=Qaa hB hE
      have hC':=Qaa hC hE
      have hD':=Qaa hD hE
      have hcx:=Qa9 hD' hZ
      have hfx:=Qbm hD' k
      go_wp2
      exact ⟨⟨k+1,by omega,by go_num,QbS (Ext.trans he hE) (by omega) _ _,(Qa3 _ _ (by omega)).trans hA',(Qa3 _ _ (by omega)).trans hB',⟨b,hbs,(Qa3 _ _ (by omega)).trans hC'⟩,(QbQ _ _ hD').trans (by rw [hS])⟩,by simp [intOf]; omega⟩
    · obtain rfl:k=16:=by omega
      go_wp2_with first
        | (go_at_call 86
           (with_reducible refine (HC.out _).mono ?_)
           rintro e w' ⟨rfl,hw⟩
           have hC':=Qaa hC hw)
        | (with_reducible show wpList _ _ _ ((⟨_,.load 116 _,_,_,_,_⟩:Oper)::_) _ _
           refine wpList_load_row rfl 116 _ rfl (w.heap.size+1+1+1) rfl 116 _ (0,0) _ hD Tryd.underlying116 rfl (Ql2 _ (mix_len _ _ _ _)) ?_)
        | (with_reducible show wpList _ _ _ ((⟨_,.store 58 _ _,_,_,_,_⟩:Oper)::_) _ _
           refine wpList_store_row rfl 58 _ _ rfl (w.heap.size+1+1) _ rfl rfl 58 _ hC' (QaY _ hrl) (by rw [hbs,Qad,hrl]) (ints_one _ _) ?_)
      exact bodyPost_ret (results_cell_row (p:=4) rfl _ _ (w.heap.size+1+1) 58 _ (0,0) _ rfl (setRow_heap _ _ _ _ _ _ hC') Tryd.underlying58 rfl (QaY _ hrl)) rfl ⟨rfl,QaA (Ext.trans he hw) (by omega) _⟩
end Go.Proofs.YtdoadngmgmdlbaaDoor.Field
end
section
namespace Go.Proofs.YtdoadngmgmdlbaaDoor.Field
open Go Go.RowKit
open Rely
theorem lSub (x y:Int) (hx:0≤x∧x<big) (hy:0≤y∧y≤p) (w:World):Calls Tryd.prog 76 #[lnum x,lnum y] w (Ret w (lnum ((x-y)%p))):=by
  have hp0:(0:Int)≤p∧p<big:=by decide
  have HM:Hid (∀ w,Calls Tryd.prog 84 #[lnum p,lnum y] w (Ret w (lnum (p-y)))):=Lib.hid fun w=>minus p y hy.1 hy.2 hp0.2 w
  have HA:Hid (∀ w,Calls Tryd.prog 73 #[lnum x,lnum (p-y)] w (Ret w (lnum ((x-y)%p)))):=Lib.hid fun w=>by
    have:=lAdd x (p-y) hx (by omega) w
    rw [show (x+(p-y))%p=(x-y)%p by rw [show x+(p-y)=x-y+p by omega,Int.add_emod_right]] at this
    exact this
  have HP:Hid (∀ w,Calls Tryd.prog 85 #[] w (Ret w (lnum p))):=Lib.hid prime
  unfold lnum at HM HA HP ⊢
  have hxl:=Qa0 x
  have hyl:=Qa0 y
  have hrl:=Qa0 ((x-y)%p)
  generalize lims ((x-y)%p)=res at *
  generalize lims (p-y)=l1 at *
  generalize lims x=lx at *
  generalize lims y=ly at *
  generalize lims p=lp at *
  clear hx hy hp0
  go_enter Tryd.func76,Tryd.ntmps76
  go_wp2_with fail
  generalize hW:((w.alloc (.cells (ints .i64 lx) 58)).alloc (.cells (ints .i64 ly) 58)).alloc _=W0
  have hA:W0.heap[w.heap.size]? = some (.cells (ints .i64 lx) 58):=by rw [←hW]; exact QcG _ _ _ _
  have hB:W0.heap[w.heap.size+1]? = some (.cells (ints .i64 ly) 58):=by rw [←hW]; exact QbW _ _ _ _
  have hC:∃ b:Array Value,b.size=16∧W0.heap[w.heap.size+1+1]? = some (.cells b 58):=by rw [←hW]; exact ⟨_,rfl,Qb2 _ _ _ _⟩
  obtain ⟨b,hbs,hC⟩:=hC
  have he:Ext w W0:=by rw [←hW]; exact ext3 _ _ _ _
  clear hW
  refine Qa1 Ext 4 10 [⟨none,[(2,none)]⟩,⟨none,[]⟩,⟨none,[(3,none)]⟩,⟨none,[(6,some 1),(7,some 2)]⟩] kj kj rfl Ext.refl Ext.trans (fun F r0 hr hF=>?_)
  have f2:r0 2=.pointer (some ⟨w.heap.size,0,none⟩):=by rw [hr]; rfl
  have f3:r0 3=.pointer (some ⟨w.heap.size+1,0,none⟩):=by rw [hr]; rfl
  clear hr
  simp only [List.take_succ_cons,List.take_zero]
  refine Qao (.agg (ints .i64 lx)) (fun ρ W hR hh=>?_) ?_
  · exact Qa6 58 (.tmp _) rfl _ (Eq.trans hh.1 f2) 58 _ (0,0) _ (Qaa (Qaa hA (Qae _)) hR) Tryd.underlying58 rfl (QaY _ hxl)
  refine Qao (.agg (ints .i64 lp)) (fun ρ W hR hh=>?_) ?_
  · simp only [guarded,QaM]
    go_simp
    exact ⟨Ext.refl _,(HP.out _).mono fun _ _ h=>h.const⟩
  refine Qao (.agg (ints .i64 ly)) (fun ρ W hR hh=>?_) ?_
  · exact Qa6 58 (.tmp _) rfl _ (Eq.trans hh.1 f3) 58 _ (0,0) _ (Qaa (Qaa hB (Qae _)) hR) Tryd.underlying58 rfl (QaY _ hyl)
  refine Qao (.agg (ints .i64 l1)) (fun ρ W hR hh=>?_) ?_
  · have h6:ρ 6=.agg (ints .i64 lp):=hh.1
    have h7:ρ 7=.agg (ints .i64 ly):=hh.2.1
    simp only [guarded,QaM]
    go_simp
    exact ⟨Ext.refl _,(HM.out _).mono fun _ _ h=>h.const⟩
  simp only [List.cons_append,List.nil_append]
  refine hF.out fun W hR=>?_
  simp only [List.take_succ_cons,List.take_zero,List.drop_succ_cons,List.drop_zero,fin,forall_eq,Act.put,List.setIfInBounds_toArray,List.set_cons_zero,List.set_cons_succ]
  clear hF
  go_wp2_with first
    | (go_at_call 73
       (with_reducible refine (HA.out _).mono ?_)
       rintro e w' ⟨rfl,hw⟩
       have hC':=Qaa (Qaa (Qaa hC (Qae _)) hR) hw
       have he':=Ext.trans (Ext.trans (Ext.trans he (Qae _)) hR) hw)
    | (with_reducible show wpList _ _ _ ((⟨_,.store 58 _ _,_,_,_,_⟩:Oper)::_) _ _
       refine wpList_store_row rfl 58 _ _ rfl (w.heap.size+1+1) _ rfl rfl 58 _ hC' (QaY _ hrl) (by rw [hbs,Qad,hrl]) (ints_one _ _) ?_)
  exact bodyPost_ret (results_cell_row (p:=4) rfl _ _ (w.heap.size+1+1) 58 _ (0,0) _ rfl (setRow_heap _ _ _ _ _ _ hC') Tryd.underlying58 rfl (QaY _ hrl)) rfl ⟨rfl,QaA he' (by omega) _⟩
theorem Qn3 (n : Int) (k:Nat):limb n k%256=Qax n (2*k):=by
  unfold limb Qax
  rw [Int.pow_mul,show (256:Int)^2=65536 by decide]
  omega
theorem QlR (n : Int) (k:Nat):limb n k/256=Qax n (2*k+1):=by
  unfold limb Qax
  rw [Int.pow_succ,Int.pow_mul,show (256:Int)^2=65536 by decide,←Int.ediv_ediv_of_nonneg (Int.le_of_lt (Qfd k))]
  omega
theorem Qlw (n : Int) (w:World):Calls Tryd.prog 57 #[lnum n] w (Ret w (.agg (ints .u8 (Qaq n)))):=by
  unfold lnum
  go_enter Tryd.func57,Tryd.ntmps57
  go_wp2_with fail
  go_loopw [4] (fun i wr=>∃ k:Nat,k≤16∧i=.int .i64 k∧Ext w wr∧wr.heap[w.heap.size]? = some (.cells (ints .i64 (lims n)) 58) ∧
    (∃ b,b.size=32∧wr.heap[w.heap.size+1]? = some (.cells b 23))∧wr.heap[w.heap.size+1+1]? = some (.cells (ints .u8 (part n (2*k))) 23)) (fun i _=>16-(intOf i).toNat)
  case atStart=>exact ⟨0,by omega,rfl,ext3 _ _ _ _,QcG _ _ _ _,⟨_,rfl,QbW _ _ _ _⟩,Qb2 _ _ _ _⟩
  case round =>
    obtain ⟨k,hk,rfl,he,hA,⟨b,hbs,hB⟩,hC⟩:=hrel
    by_cases hlt:k<16
    · have hX:(ints .i64 (lims n))[k]? = some (.int .i64 (limb n k)):=by rw [Qar _ _ _ (by rw [Qa0]; exact hlt),QbZ _ _ hlt]
      have g1:=QgP n (2*k) (by omega)
      have s1:=QgO n (2*k) (by omega)
      have g2:=QgP n (2*k+1) (by omega)
      have s2:=QgO n (2*k+1) (by omega)
      have e1:=Qn3 n k
      have e2:=QlR n k
      have b1:=QaS n k
      generalize hlx:limb n k=lx at *
      have q1:IntKind.i64.wrap (2*(k:Int))=2*(k:Int):=IntWalk.i64_in _ (by omega)
      have q2:(2*(k:Int)).toNat=2*k:=by omega
      have q3:(0:Int)≤2*(k:Int):=by omega
      have q4:2*(k:Int)<32:=by omega
      have q5:IntKind.i64.wrap (2*(k:Int)+1)=2*(k:Int)+1:=IntWalk.i64_in _ (by omega)
      have q6:(2*(k:Int)+1).toNat=2*k+1:=by omega
      have q7:(0:Int)≤2*(k:Int)+1:=by omega
      have q8:2*(k:Int)+1<32:=by omega
      have w2:lx.tmod 256=lx%256:=Int.tmod_eq_emod_of_nonneg (by omega)
      have w3:IntKind.i64.wrap (lx%256)=lx%256:=IntWalk.i64_in _ (by omega)
      have w4:lx.tdiv 256=lx/256:=Int.tdiv_eq_ediv_of_nonneg (by omega)
      have w5:IntKind.i64.wrap (lx/256)=lx/256:=IntWalk.i64_in _ (by omega)
      have w6:IntKind.u8.wrap (lx%256)=lx%256:=by rw [IntKind.wrap_u8]; omega
      have w7:IntKind.u8.wrap (lx/256)=lx/256:=by rw [IntKind.wrap_u8]; omega
      have hcx:=Qa9 hA hX
      have hcy:=Qa9 hC g1
      have hfy:=Qbm hC (2*k)
      have hC2:=QbQ (2*k) (.int .u8 (lx%256)) hC
      rw [e1,s1] at hC2
      rw [←e1] at hC2
      have hA2:=(Qa3 (W:=wr) (2*k) (.int .u8 (lx%256)) (show w.heap.size≠w.heap.size+1+1 by omega)).trans hA
      have hB2:=(Qa3 (W:=wr) (2*k) (.int .u8 (lx%256)) (show w.heap.size+1≠w.heap.size+1+1 by omega)).trans hB
      have he2:=QbS he (show w.heap.size≤w.heap.size+1+1 by omega) (2*k) (.int .u8 (lx%256))
      generalize hwz:wr.setCell ⟨w.heap.size+1+1,2*k,none⟩ (.int .u8 (lx%256))=wz at *
      have hcx2:=Qa9 hA2 hX
      have hcy2:=Qa9 hC2 g2
      have hfy2:=Qbm hC2 (2*k+1)
      have e1':=Lib.hid e1
      have e2':=Lib.hid e2
      clear e1 e2 s1
      go_wp2
      exact ⟨⟨k+1,by omega,by go_num,QbS he2 (by omega) _ _,(Qa3 _ _ (by omega)).trans hA2,⟨b,hbs,(Qa3 _ _ (by omega)).trans hB2⟩,(QbQ _ _ hC2).trans (by rw [e2'.out,s2]; rfl)⟩,by simp [intOf]; omega⟩
    · obtain rfl:k=16:=by omega
      have hi:(Tryd.prog.info? 23).map (·.size)=some (ints .u8 (Qaq n)).size:=by rw [infoKey,Qad]; rfl
      have hbl:b.size=(ints .u8 (Qaq n)).size:=by rw [hbs,Qad]; rfl
      have hC:wr.heap[w.heap.size+1+1]? = some (.cells (ints .u8 (Qaq n)) 23):=hC
      go_wp2_with first
        | (with_reducible show wpList _ _ _ ((⟨_,.load 23 _,_,_,_,_⟩:Oper)::_) _ _
           refine wpList_load_row rfl 23 _ rfl (w.heap.size+1+1) rfl 23 (ints .u8 (Qaq n)) (0,0) _ hC Tryd.underlying23 rfl hi ?_)
        | (with_reducible show wpList _ _ _ ((⟨_,.store 23 _ _,_,_,_,_⟩:Oper)::_) _ _
           refine wpList_store_row rfl 23 _ _ rfl (w.heap.size+1) (ints .u8 (Qaq n)) rfl rfl 23 _ hB hi hbl (ints_one _ _) ?_)
      exact bodyPost_ret (results_cell_row (p:=2) rfl _ _ (w.heap.size+1) 23 (ints .u8 (Qaq n)) (0,0) _ rfl (setRow_heap _ _ _ _ _ _ hB) Tryd.underlying23 rfl hi) rfl ⟨rfl,QaA he (by omega) _⟩
end Go.Proofs.YtdoadngmgmdlbaaDoor.Field
end
section
namespace Go.Proofs.YtdoadngmgmdlbaaDoor.Field
open Go Go.RowKit
open Rely
def Qfe : Int:=57896044618658097711785492504343953926634992332820282019728792003956564819968
def QbE (xs : List Int) (i:Nat):Int:=nth xs (2*i)+256*nth xs (2*i+1)
def Qcr (xs : List Int) (i:Nat):Int:=if i=15 then QbE xs 15%32768 else QbE xs i
theorem QcY (xs : List Int) (hb:Qaj xs) (i:Nat):0≤QbE xs i∧QbE xs i<65536:=by
  have h1:=hb.nth (2*i)
  have h2:=hb.nth (2*i+1)
  unfold QbE
  omega
theorem QgQ (xs : List Int):∀ k,pvf (QbE xs) k=leAt xs 0 (2*k)
  | 0=>rfl
  | k+1=>by
    have e:2*(k+1)=2*k+1+1:=by omega
    have f:(256:Int)^(2*k)=65536^k:=by rw [Int.pow_mul]; rfl
    have f':(256:Int)^(2*k+1)=256*65536^k:=by rw [Int.pow_succ,f,Int.mul_comm]
    rw [pvf,QgQ xs k,e,leAt,leAt,Nat.zero_add,Nat.zero_add,f,f',QbE]
    generalize (65536:Int)^k=b
    generalize nth xs (2*k)=u
    generalize nth xs (2*k+1)=v
    generalize leAt xs 0 (2*k)=z
    grind
theorem QmB (xs : List Int) (hb:Qaj xs):pvf (Qcr xs) 16=leAt xs 0 32%Qfe:=by
  have h:=QgQ xs 16
  have e1:pvf (QbE xs) 16=pvf (QbE xs) 15+QbE xs 15*65536^15:=rfl
  have e2:pvf (Qcr xs) 16=pvf (Qcr xs) 15+Qcr xs 15*65536^15:=rfl
  have e3:pvf (Qcr xs) 15=pvf (QbE xs) 15:=Qcz (n:=15) (fun i hi=>by unfold Qcr; rw [if_neg (by omega)]) 15 (qR _)
  have e4:Qcr xs 15=QbE xs 15%32768:=by unfold Qcr; rw [if_pos rfl]
  have r1:=QfB (QbE xs) 15 (fun i _=>QcY xs hb i) 15 (qR _)
  have r2:=QcY xs hb 15
  have f1:(65536:Int)^15=1766847064778384329583297500742918515827483896875618958121606201292619776:=by decide
  rw [show 2*16=32 from rfl] at h
  rw [←h,e1,e2,e3,e4,f1]
  rw [f1] at r1
  unfold Qfe
  omega
theorem Qpw (xs : List Int):(mix 32 (QbE xs) (fun _=>0) 16).set 15 (QbE xs 15%32768)=mix 32 (Qcr xs) (fun _=>0) 16:=by
  refine List.ext_getElem (by simp [mix]) fun i h1 h2=>?_
  have h3:i<32:=by simpa [mix] using h2
  simp only [mix,List.getElem_set,List.getElem_map,List.getElem_range]
  unfold Qcr
  by_cases h:i=15
  · subst h; simp
  · rw [if_neg (show ¬ 15=i by omega),if_neg h]
set_option maxRecDepth 100000 in
theorem lFrom (xs : List Int) (hl:xs.length=32) (hb:Qaj xs) (w:World):Calls Tryd.prog 60 #[.agg (ints .u8 xs)] w (Ret w (lnum (leAt xs 0 32%57896044618658097711785492504343953926634992332820282019728792003956564819968%p))):=by
  have hi:(Tryd.prog.info? 23).map (·.size)=some (ints .u8 xs).size:=by rw [infoKey,Qad,hl]
  have hv:pvf (nth (mix 32 (Qcr xs) (fun _=>0) 16)) 32=leAt xs 0 32%Qfe:=by rw [QkN _ _ (by decide),QmB xs hb]
  have HC:Hid (∀ w,Calls Tryd.prog 86 #[.agg (ints .i64 (mix 32 (Qcr xs) (fun _=>0) 16))] w (Ret w (lnum (leAt xs 0 32%Qfe%p)))):=Lib.hid fun w=>by
    have:=small (mix 32 (Qcr xs) (fun _=>0) 16) (mix_len _ _ _ _) (QhI _ 16 fun i _=>by
      have:=QcY xs hb i
      have:=QcY xs hb 15
      unfold Qcr M
      split <;> omega) (by
        rw [hv,Qo6]
        have h1:=Int.emod_nonneg (leAt xs 0 32) (show Qfe≠0 by decide)
        have h2:=Int.emod_lt_of_pos (leAt xs 0 32) (show (0:Int)<Qfe by decide)
        have h3:Qfe<big*big:=by decide
        omega) w
    rw [hv] at this
    exact this
  unfold lnum Qfe at HC
  unfold lnum
  have hrl:=Qa0 (leAt xs 0 32%57896044618658097711785492504343953926634992332820282019728792003956564819968%p)
  generalize lims (leAt xs 0 32%57896044618658097711785492504343953926634992332820282019728792003956564819968%p)=res at *
  clear hv
  go_enter Tryd.func60,Tryd.ntmps60
  go_wp2_with fail
  go_loopw [4] (fun i wr=>∃ k:Nat,k≤16∧i=.int .i64 k∧Ext w wr∧wr.heap[w.heap.size]? = some (.cells (ints .u8 xs) 23) ∧
    (∃ b,b.size=16∧wr.heap[w.heap.size+1]? = some (.cells b 58))∧wr.heap[w.heap.size+1+1]? = some (.cells (ints .i64 (mix 32 (QbE xs) (fun _=>0) k)) 116)) (fun i _=>16-(intOf i).toNat)
  case atStart=>exact ⟨0,by omega,rfl,ext3 _ _ _ _,QcG _ _ _ _,⟨_,rfl,QbW _ _ _ _⟩,Qb2 _ _ _ _⟩
  case round =>
    obtain ⟨k,hk,rfl,he,hA,⟨b,hbs,hB⟩,hC⟩:=hrel
    by_cases hlt:k<16
    · have hX:(ints .u8 xs)[2*k]? = some (.int .u8 (nth xs (2*k))):=Qar _ _ _ (by omega)
      have hY:(ints .u8 xs)[2*k+1]? = some (.int .u8 (nth xs (2*k+1))):=Qar _ _ _ (by omega)
      have hZ:(ints .i64 (mix 32 (QbE xs) (fun _=>0) k))[k]? = some (.int .i64 0):=by rw [Qar _ _ _ (by rw [mix_len]; omega),QbJ _ _ _ _ _ (by omega),if_neg (by omega)]
      have hS:(ints .i64 (mix 32 (QbE xs) (fun _=>0) k)).setIfInBounds k (.int .i64 (QbE xs k))=ints .i64 (mix 32 (QbE xs) (fun _=>0) (k+1)):=by
        rw [Qbx,←mix_set _ _ _ _ (by omega)]
      have b1:=hb.nth (2*k)
      have b2:=hb.nth (2*k+1)
      have eP:QbE xs k=nth xs (2*k)+256*nth xs (2*k+1):=rfl
      generalize hlx:nth xs (2*k)=lx at *
      generalize hly:nth xs (2*k+1)=ly at *
      rw [eP] at hS
      clear eP
      have q1:IntKind.i64.wrap (2*(k:Int))=2*(k:Int):=IntWalk.i64_in _ (by omega)
      have q2:(2*(k:Int)).toNat=2*k:=by omega
      have q3:(0:Int)≤2*(k:Int):=by omega
      have q4:2*(k:Int)<32:=by omega
      have q5:IntKind.i64.wrap (2*(k:Int)+1)=2*(k:Int)+1:=IntWalk.i64_in _ (by omega)
      have q6:(2*(k:Int)+1).toNat=2*k+1:=by omega
      have q7:(0:Int)≤2*(k:Int)+1:=by omega
      have q8:2*(k:Int)+1<32:=by omega
      have q9:(k:Int)<32:=by omega
      have w1:IntKind.i64.wrap lx=lx:=IntWalk.i64_in _ (by omega)
      have w2:IntKind.i64.wrap ly=ly:=IntWalk.i64_in _ (by omega)
      have w3:IntKind.i64.wrap (256*ly)=256*ly:=IntWalk.i64_in _ (by omega)
      have w4:IntKind.i64.wrap (lx+256*ly)=lx+256*ly:=IntWalk.i64_in _ (by omega)
      have HX:Hid (∀ W,Ext wr.drew W→W.cell? ⟨w.heap.size,2*k,none⟩=some (.int .u8 lx)):=Lib.hid fun W hR=>Qa9 (Qaa (Qaa hA (Qae _)) hR) hX
      have HY:Hid (∀ W,Ext wr.drew W→W.cell? ⟨w.heap.size,2*k+1,none⟩=some (.int .u8 ly)):=Lib.hid fun W hR=>Qa9 (Qaa (Qaa hA (Qae _)) hR) hY
      go_wp2
      refine Qa1 Ext 15 30 [⟨none,[(4,none)]⟩,⟨none,[(4,none)]⟩,⟨none,[(10,some 1)]⟩,⟨none,[(1,none),(11,some 2)]⟩,⟨none,[(12,some 3)]⟩,⟨none,[(13,some 4)]⟩,⟨none,[(4,none)]⟩,⟨none,[(15,some 6)]⟩,⟨none,[(16,some 7)]⟩,⟨none,[(1,none),(17,some 8)]⟩,⟨none,[(18,some 9)]⟩,⟨none,[(19,some 10)]⟩,⟨none,[(20,some 11)]⟩,⟨none,[(14,some 5),(21,some 12)]⟩,⟨none,[(3,none),(9,some 0)]⟩] kj kj rfl Ext.refl Ext.trans (fun F r0 hr hF=>?_)
      have f1:r0 1=.pointer (some ⟨w.heap.size,0,none⟩):=by rw [hr]; rfl
      have f3:r0 3=.pointer (some ⟨w.heap.size+1+1,0,none⟩):=by rw [hr]; rfl
      have f4:r0 4=.int .i64 k:=by rw [hr]; rfl
      clear hr
      simp only [List.take_succ_cons,List.take_zero]
      repeat
        (try simp only [List.cons_append,List.nil_append]
         apply Qao
         (intro ρ W hR hh
          have hcx:=HX.out W hR
          have hcy:=HY.out W hR
          simp only [QbX,List.getD_cons_zero,List.getD_cons_succ,f1,f3,f4] at hh
          simp only [guarded,QaM]
          go_simp
          first
            | exact ⟨Ext.refl _,rfl⟩
            | exact Ext.refl _))
      simp only [List.cons_append,List.nil_append]
      refine hF.out fun W hRW=>?_
      simp only [List.take_succ_cons,List.take_zero,List.drop_succ_cons,List.drop_zero,fin,forall_eq,Act.put,List.setIfInBounds_toArray,List.set_cons_zero,List.set_cons_succ]
      clear HX HY hF f1 f3 f4
      have hE:=Ext.trans (Qae wr) hRW
      have hA':=Qaa hA hE
      have hB':=Qaa hB hE
      have hC':=Qaa hC hE
      have hcx:=Qa9 hC' hZ
      have hfx:=Qbm hC' k
      go_wp2
      exact ⟨⟨k+1,by omega,by go_num,QbS (Ext.trans he hE) (by omega) _ _,(Qa3 _ _ (by omega)).trans hA',⟨b,hbs,(Qa3 _ _ (by omega)).trans hB'⟩,(QbQ _ _ hC').trans (by rw [hS])⟩,by simp [intOf]; omega⟩
    · obtain rfl:k=16:=by omega
      have hX:(ints .i64 (mix 32 (QbE xs) (fun _=>0) 16))[15]? = some (.int .i64 (QbE xs 15)):=by rw [Qar _ _ _ (by rw [mix_len]; decide),QbJ _ _ _ _ _ (by decide),if_pos (by decide)]
      have hS:(ints .i64 (mix 32 (QbE xs) (fun _=>0) 16)).setIfInBounds 15 (.int .i64 (QbE xs 15%32768))=ints .i64 (mix 32 (Qcr xs) (fun _=>0) 16):=by rw [Qbx,Qpw]
      have b1:=QcY xs hb 15
      generalize hlx:QbE xs 15=lx at *
      have w3:lx.tmod 32768=lx%32768:=Int.tmod_eq_emod_of_nonneg (by omega)
      have w4:IntKind.i64.wrap (lx%32768)=lx%32768:=IntWalk.i64_in _ (by omega)
      have hcx:=Qa9 hC hX
      have hfx:=Qbm hC 15
      have hC2:=QbQ 15 (.int .i64 (lx%32768)) hC
      rw [hS] at hC2
      have hB2:=(Qa3 (W:=wr) 15 (.int .i64 (lx%32768)) (show w.heap.size+1≠w.heap.size+1+1 by omega)).trans hB
      have he2:=QbS he (show w.heap.size≤w.heap.size+1+1 by omega) 15 (.int .i64 (lx%32768))
      generalize hwz:wr.setCell ⟨w.heap.size+1+1,15,none⟩ (.int .i64 (lx%32768))=wz at *
      go_wp2_with first
        | (go_at_call 86
           (with_reducible refine (HC.out _).mono ?_)
           rintro e w' ⟨rfl,hw⟩
           have hB':=Qaa hB2 hw)
        | (with_reducible show wpList _ _ _ ((⟨_,.load 116 _,_,_,_,_⟩:Oper)::_) _ _
           refine wpList_load_row rfl 116 _ rfl (w.heap.size+1+1) rfl 116 _ (0,0) _ hC2 Tryd.underlying116 rfl (Ql2 _ (mix_len _ _ _ _)) ?_)
        | (with_reducible show wpList _ _ _ ((⟨_,.store 58 _ _,_,_,_,_⟩:Oper)::_) _ _
           refine wpList_store_row rfl 58 _ _ rfl (w.heap.size+1) _ rfl rfl 58 _ hB' (QaY _ hrl) (by rw [hbs,Qad,hrl]) (ints_one _ _) ?_)
      exact bodyPost_ret (results_cell_row (p:=2) rfl _ _ (w.heap.size+1) 58 _ (0,0) _ rfl (setRow_heap _ _ _ _ _ _ hB') Tryd.underlying58 rfl (QaY _ hrl)) rfl ⟨rfl,QaA (Ext.trans he2 hw) (by omega) _⟩
end Go.Proofs.YtdoadngmgmdlbaaDoor.Field
end
section
namespace Go.Proofs.YtdoadngmgmdlbaaDoor.Field
open Go Go.RowKit
open Rely
theorem QkM (xs : List Int) (i:Nat) (d:Int) (hi:i<xs.length):∀ n,pvf (nth (xs.set i (nth xs i+d))) n=pvf (nth xs) n+(if i<n then d*65536^i else 0)
  | 0=>by simp [pvf]
  | n+1=>by
    rw [pvf,pvf,QkM xs i d hi n]
    by_cases h:i=n
    · subst h
      rw [Qgo _ _ _ hi,if_neg (by omega),if_pos (by omega),Int.add_mul]
      omega
    · rw [nth_set_ne _ _ _ _ h]
      by_cases h2:i<n
      · rw [if_pos h2,if_pos (by omega)]; omega
      · rw [if_neg h2,if_neg (by omega)]; omega
theorem QhM (x y:Int) (i j:Nat):0≤limb x i*limb y j∧limb x i*limb y j≤4294836225:=by
  have h1:=QaS x i
  have h2:=QaS y j
  refine ⟨Int.mul_nonneg h1.1 h2.1,?_⟩
  have:=Int.mul_le_mul (show limb x i≤65535 by omega) (show limb y j≤65535 by omega) h2.1 (by decide)
  omega
def Qfk (x y:Int) (i j:Nat) (xs:List Int):Prop :=
  xs.length=32∧(∀ m,m<32→0≤nth xs m∧nth xs m≤4294836225*(16*(i:Int)+j))∧pvf (nth xs) 32=pvf (limb x) i*pvf (limb y) 16+limb x i*65536^i*pvf (limb y) j
theorem Qlf (n m:Nat):nth (List.replicate n (0:Int)) m=0:=by
  unfold nth
  rw [List.getD_eq_getElem?_getD,List.getElem?_replicate]
  split <;> rfl
theorem QhG (x y:Int):Qfk x y 0 0 (List.replicate 32 0):=by
  refine ⟨rfl,fun m hm=>?_,?_⟩
  · rw [Qlf]; simp
  · have:pvf (nth (List.replicate 32 (0:Int))) 32=0:=by
      rw [Qcz (h:=fun _=>0) (n:=32) (fun i hi=>Qlf 32 i) 32 (qR _)]
      exact QgI 32
    rw [this]; simp [pvf]
theorem Qi7 (x y:Int) (i:Nat) (xs:List Int) (h:Qfk x y i 16 xs):Qfk x y (i+1) 0 xs:=by
  refine ⟨h.1,fun m hm=>?_,?_⟩
  · have:=h.2.1 m hm
    omega
  · rw [h.2.2]
    show _=(pvf (limb x) i+limb x i*65536^i)*pvf (limb y) 16+limb x (i+1)*65536^(i+1)*0
    rw [Int.add_mul,Int.mul_zero,Int.add_zero]
theorem Qi6 (x y:Int) (i j:Nat) (xs:List Int) (hi:i<16) (hj:j<16) (h:Qfk x y i j xs):Qfk x y i (j+1) (xs.set (i+j) (nth xs (i+j)+limb x i*limb y j)):=by
  have hp:=QhM x y i j
  refine ⟨by simp [h.1],fun m hm=>?_,?_⟩
  · have hm':=h.2.1 m hm
    by_cases e:i+j=m
    · rw [←e] at hm' ⊢
      rw [Qgo _ _ _ (by rw [h.1]; omega)]
      omega
    · rw [nth_set_ne _ _ _ _ e]
      omega
  · rw [QkM _ _ _ (by rw [h.1]; omega),h.2.2,if_pos (by omega),Int.pow_add]
    show _=pvf (limb x) i*pvf (limb y) 16+limb x i*65536^i*(pvf (limb y) j+limb y j*65536^j)
    generalize pvf (limb x) i*pvf (limb y) 16=a
    generalize limb x i=b
    generalize limb y j=c
    generalize pvf (limb y) j=d
    generalize (65536:Int)^i=e
    generalize (65536:Int)^j=f
    grind
set_option maxHeartbeats 1000000 in
theorem lMul (x y:Int) (hx:0≤x∧x<big) (hy:0≤y∧y<big) (w:World):Calls Tryd.prog 58 #[lnum x,lnum y] w (Ret w (lnum (x*y%p))):=by
  have HC:Hid (∀ xs,Qfk x y 16 0 xs→∀ w,Calls Tryd.prog 86 #[.agg (ints .i64 xs)] w (Ret w (lnum (x*y%p)))):=Lib.hid fun xs h w=>by
    have hv:pvf (nth xs) 32=x*y:=by
      rw [h.2.2,Qft x hx,Qft y hy]
      simp [pvf]
    have h1:0≤x*y:=Int.mul_nonneg hx.1 hy.1
    have h2:x*y<big*big:=by
      have a1:x*y≤x*big:=Int.mul_le_mul_of_nonneg_left (Int.le_of_lt hy.2) hx.1
      have a2:x*big<big*big:=Int.mul_lt_mul_of_pos_right hx.2 (by decide)
      exact Int.lt_of_le_of_lt a1 a2
    have:=small xs h.1 (fun i hi=>by
      have:=h.2.1 i hi
      unfold M
      omega) (by rw [hv,Qo6]; exact ⟨h1,h2⟩) w
    rw [hv] at this
    exact this
  unfold lnum at HC ⊢
  have hrl:=Qa0 (x*y%p)
  generalize lims (x*y%p)=res at *
  go_enter Tryd.func58,Tryd.ntmps58
  go_wp2_with fail
  go_loopw [6] (fun i wr=>∃ k:Nat,k≤16∧i=.int .i64 k∧Ext w wr∧wr.heap[w.heap.size]? = some (.cells (ints .i64 (lims x)) 58)∧wr.heap[w.heap.size+1]? = some (.cells (ints .i64 (lims y)) 58) ∧
    (∃ b,b.size=16∧wr.heap[w.heap.size+1+1]? = some (.cells b 58))∧∃ xs,Qfk x y k 0 xs∧wr.heap[w.heap.size+1+1+1]? = some (.cells (ints .i64 xs) 116)) (fun i _=>16-(intOf i).toNat)
  case atStart=>exact ⟨0,by omega,rfl,ext4 _ _ _ _ _,Qhl _ _ _ _ _,Qhk _ _ _ _ _,⟨_,rfl,Qhj _ _ _ _ _⟩,_,QhG x y,Qhi _ _ _ _ _⟩
  case round =>
    obtain ⟨i,hi,rfl,he,hA,hB,⟨b,hbs,hC⟩,xs,hM,hD⟩:=hrel
    by_cases hlt:i<16
    · have HD:=Lib.hid hM
      clear hM
      go_wp2
      go_loopw [7] (fun j wq=>∃ k:Nat,k≤16∧j=.int .i64 k∧Ext w wq∧wq.heap[w.heap.size]? = some (.cells (ints .i64 (lims x)) 58)∧wq.heap[w.heap.size+1]? = some (.cells (ints .i64 (lims y)) 58) ∧
        wq.heap[w.heap.size+1+1]? = some (.cells b 58)∧∃ xs,Qfk x y i k xs∧wq.heap[w.heap.size+1+1+1]? = some (.cells (ints .i64 xs) 116)) (fun j _=>16-(intOf j).toNat)
      case atStart=>exact ⟨0,by omega,rfl,he,hA,hB,hC,xs,HD.out,hD⟩
      case round =>
        clear hA hB hC hD he HD
        obtain ⟨k,hk,rfl,he,hA,hB,hC,xs,hM,hD⟩:=hrel
        by_cases hk16:k<16
        · have hX:(ints .i64 (lims x))[i]? = some (.int .i64 (limb x i)):=by rw [Qar _ _ _ (by rw [Qa0]; exact hlt),QbZ _ _ hlt]
          have hY:(ints .i64 (lims y))[k]? = some (.int .i64 (limb y k)):=by rw [Qar _ _ _ (by rw [Qa0]; exact hk16),QbZ _ _ hk16]
          have hZ:(ints .i64 xs)[i+k]? = some (.int .i64 (nth xs (i+k))):=Qar _ _ _ (by rw [hM.1]; omega)
          have hN:=Lib.hid (Qi6 x y i k xs hlt hk16 hM)
          have hS:(ints .i64 xs).setIfInBounds (i+k) (.int .i64 (nth xs (i+k)+limb x i*limb y k))=ints .i64 (xs.set (i+k) (nth xs (i+k)+limb x i*limb y k)):=by rw [Qbx]
          have b1:=hM.2.1 (i+k) (by omega)
          have b2:=QhM x y i k
          clear hM
          generalize hzz:nth xs (i+k)=zz at *
          generalize hlx:limb x i=lx at *
          generalize hly:limb y k=ly at *
          have w1:IntKind.i64.wrap (lx*ly)=lx*ly:=IntWalk.i64_in _ (by omega)
          have w2:IntKind.i64.wrap (zz+lx*ly)=zz+lx*ly:=IntWalk.i64_in _ (by omega)
          have q1:IntKind.i64.wrap ((i:Int)+(k:Int))=(i:Int)+(k:Int):=IntWalk.i64_in _ (by omega)
          have q2:((i:Int)+(k:Int)).toNat=i+k:=by omega
          have q3:(0:Int)≤(i:Int)+(k:Int):=by omega
          have q4:(i:Int)+(k:Int)<32:=by omega
          have q5:(i:Int)<16:=by omega
          have HX:Hid (∀ W,Ext wr.drew W→W.cell? ⟨w.heap.size,i,none⟩=some (.int .i64 lx)):=Lib.hid fun W hR=>Qa9 (Qaa (Qaa hA (Qae _)) hR) hX
          have HY:Hid (∀ W,Ext wr.drew W→W.cell? ⟨w.heap.size+1,k,none⟩=some (.int .i64 ly)):=Lib.hid fun W hR=>Qa9 (Qaa (Qaa hB (Qae _)) hR) hY
          have HZ:Hid (∀ W,Ext wr.drew W→W.cell? ⟨w.heap.size+1+1+1,i+k,none⟩=some (.int .i64 zz)):=Lib.hid fun W hR=>Qa9 (Qaa (Qaa hD (Qae _)) hR) hZ
          clear b1 b2
          go_wp2
          refine Qa1 Ext 17 35 [⟨none,[(6,none)]⟩,⟨none,[(7,none)]⟩,⟨none,[(16,some 0),(17,some 1)]⟩,⟨none,[(6,none)]⟩,⟨none,[(7,none)]⟩,⟨none,[(19,some 3),(20,some 4)]⟩,⟨none,[(5,none),(21,some 5)]⟩,⟨none,[(22,some 6)]⟩,⟨none,[(6,none)]⟩,⟨none,[(2,none),(24,some 8)]⟩,⟨none,[(25,some 9)]⟩,⟨none,[(7,none)]⟩,⟨none,[(3,none),(27,some 11)]⟩,⟨none,[(28,some 12)]⟩,⟨none,[(26,some 10),(29,some 13)]⟩,⟨none,[(23,some 7),(30,some 14)]⟩,⟨none,[(5,none),(18,some 2)]⟩] kj kj rfl Ext.refl Ext.trans (fun F r0 hr hF=>?_)
          have f2:r0 2=.pointer (some ⟨w.heap.size,0,none⟩):=by rw [hr]; rfl
          have f3:r0 3=.pointer (some ⟨w.heap.size+1,0,none⟩):=by rw [hr]; rfl
          have f5:r0 5=.pointer (some ⟨w.heap.size+1+1+1,0,none⟩):=by rw [hr]; rfl
          have f6:r0 6=.int .i64 i:=by rw [hr]; rfl
          have f7:r0 7=.int .i64 k:=by rw [hr]; rfl
          clear hr
          simp only [List.take_succ_cons,List.take_zero]
          repeat
            (try simp only [List.cons_append,List.nil_append]
             apply Qao
             (intro ρ W hR hh
              have hcx:=HX.out W hR
              have hcy:=HY.out W hR
              have hcz:=HZ.out W hR
              simp only [QbX,List.getD_cons_zero,List.getD_cons_succ,f2,f3,f5,f6,f7] at hh
              simp only [guarded,QaM]
              go_simp
              first
                | exact ⟨Ext.refl _,rfl⟩
                | exact Ext.refl _))
          simp only [List.cons_append,List.nil_append]
          refine hF.out fun W hRW=>?_
          simp only [List.take_succ_cons,List.take_zero,List.drop_succ_cons,List.drop_zero,fin,forall_eq,Act.put,List.setIfInBounds_toArray,List.set_cons_zero,List.set_cons_succ]
          clear HX HY HZ hF f2 f3 f5 f6 f7
          have hE:=Ext.trans (Qae wr) hRW
          have hA':=Qaa hA hE
          have hB':=Qaa hB hE
          have hC':=Qaa hC hE
          have hD':=Qaa hD hE
          have hcx:=Qa9 hD' hZ
          have hfx:=Qbm hD' (i+k)
          go_wp2
          exact ⟨⟨k+1,by omega,by go_num,QbS (Ext.trans he hE) (by omega) _ _,(Qa3 _ _ (by omega)).trans hA',(Qa3 _ _ (by omega)).trans hB',(Qa3 _ _ (by omega)).trans hC',_,hN.out,(QbQ _ _ hD').trans (by rw [hS])⟩,by simp [intOf]; omega⟩
        · obtain rfl:k=16:=by omega
          have hN:=Lib.hid (Qi7 x y i xs hM)
          clear hM
          go_wp2
          exact ⟨⟨i+1,by omega,by go_num,he,hA,hB,⟨b,hbs,hC⟩,xs,hN.out,hD⟩,by simp [intOf]; omega⟩
    · obtain rfl:i=16:=by omega
      have HC':=Lib.hid (HC.out xs hM)
      have hi:=Ql2 xs hM.1
      clear hM HC
      go_wp2_with first
        | (go_at_call 86
           (with_reducible refine (HC'.out _).mono ?_)
           rintro e w' ⟨rfl,hw⟩
           have hC':=Qaa hC hw)
        | (with_reducible show wpList _ _ _ ((⟨_,.load 116 _,_,_,_,_⟩:Oper)::_) _ _
           refine wpList_load_row rfl 116 _ rfl (w.heap.size+1+1+1) rfl 116 _ (0,0) _ hD Tryd.underlying116 rfl hi ?_)
        | (with_reducible show wpList _ _ _ ((⟨_,.store 58 _ _,_,_,_,_⟩:Oper)::_) _ _
           refine wpList_store_row rfl 58 _ _ rfl (w.heap.size+1+1) _ rfl rfl 58 _ hC' (QaY _ hrl) (by rw [hbs,Qad,hrl]) (ints_one _ _) ?_)
      exact bodyPost_ret (results_cell_row (p:=4) rfl _ _ (w.heap.size+1+1) 58 _ (0,0) _ rfl (setRow_heap _ _ _ _ _ _ hC') Tryd.underlying58 rfl (QaY _ hrl)) rfl ⟨rfl,QaA (Ext.trans he hw) (by omega) _⟩
end Go.Proofs.YtdoadngmgmdlbaaDoor.Field
end
section
namespace Go.Proofs.YtdoadngmgmdlbaaDoor.Field
open Go Go.RowKit
open Rely
theorem Qec (w : World) (a b:Obj):((w.alloc a).alloc b).heap[w.heap.size]? = some a:=by
  rw [Below.heap_alloc _ _ _ (by simp)]; exact heap_alloc_new _ _
theorem Qeb (w : World) (a b:Obj):((w.alloc a).alloc b).heap[w.heap.size+1]? = some b:=by
  have:=heap_alloc_new (w.alloc a) b
  simpa using this
theorem Qlm : lims 0=List.replicate 16 0:=by decide +kernel
theorem Qjn : lims 1=1::List.replicate 15 0:=by decide +kernel
end Go.Proofs.YtdoadngmgmdlbaaDoor.Field
end
section
namespace Go.Proofs.YtdoadngmgmdlbaaDoor.Field
open Go Go.RowKit
open Rely
def QfM (xs : List Int):Int:=leAt xs 0 32%57896044618658097711785492504343953926634992332820282019728792003956564819968%p
theorem Qkj (xs : List Int):isN (QfM xs):=isN_mod _
theorem QbR {n : Int} (h:isN n):0≤n∧n<big:=⟨h.1,Int.lt_trans h.2 (by decide)⟩
theorem QbF {o : Oper} {ρ:Tmp→Value} {W:World} (x:Operand) (ho:o.op=.load 49 x) (g:Nat) (n:Int) (hx:Rely.look ρ x=Value.pointer (some ⟨g,0,none⟩)) (hg:W.heap[g]? = some (.cells (numA n) 49)) :
    QaM Tryd.prog Ext o ρ W (fun v _=>v=num n) :=
  Qa6 49 x ho g hx 49 (numA n) (0,0) _ hg Tryd.underlying49 rfl QaU
theorem QnO (a b:Int) (h:a=b) (ha:isN a) (w:World):Calls Tryd.prog 94 #[num a,num b] w (Ret w (.bool true)):=by
  subst h
  have:=equal a a ha ha w
  simpa using this
theorem Qji (a b:Int) (h:a≠b) (ha:isN a) (hb:isN b) (w:World):Calls Tryd.prog 94 #[num a,num b] w (Ret w (.bool false)):=by
  have:=equal a b ha hb w
  rw [show (a==b)=false by simpa using h] at this
  exact this
def Qmd (t : TypeId) (m:Nat) (b:Nat) (v:Value) (W:World):Prop:=∃ g,v=.pointer (some ⟨g,0,none⟩)∧b≤g∧g<W.heap.size∧∃ cs:Array Value,cs.size=m∧W.heap[g]? = some (.cells cs t)
theorem QeE (t : TypeId) (m:Nat) (b:Nat):QbP Ext (Qmd t m b):=fun v W W' hR ⟨g,h1,h2,h3,cs,h4,h5⟩=>⟨g,h1,h2,qL h3 hR.size,cs,h4,(hR.block g h3).trans h5⟩
theorem bytesOf_len (n : Int):(Qaq n).length=32:=by simp [Qaq,part]
end Go.Proofs.YtdoadngmgmdlbaaDoor.Field
end
section
namespace Go.Proofs.YtdoadngmgmdlbaaDoor.Field
open Go Go.RowKit Go.Shelf
open Rely
attribute [local go_sem] Oper.semAt_some
def QcV (es : List Int) (i:Nat):Int:=nth es (i/8)/2^(i%8)%2
def QbL (es : List Int):List Int:=(List.range 256).map fun j=>QcV es (255-j)
theorem Qg0 (es : List Int):(QbL es).length=256:=by simp [QbL]
theorem QiH (es : List Int) (j:Nat) (hj:j<256):(QbL es).take (256-j)=(QbL es).take (256-(j+1))++[QcV es j]:=by
  have e:256-j=(256-(j+1))+1:=by omega
  rw [e,List.take_add_one]
  congr 1
  have h:256-(j+1)<256:=by omega
  simp only [QbL,List.getElem?_map,List.getElem?_range h,Option.map_some,Option.toList_some]
  rw [show 255-(256-(j+1))=j by omega]
theorem QfY (es : List Int) (i:Nat):0≤QcV es i∧QcV es i<2:=by unfold QcV; omega
def Qe7 (a o b:Int):Int:=if b=0 then o*o%p else o*o%p*a%p
def Qb0 (a : Int) (bs:List Int):Int:=bs.foldl (Qe7 a) 1
theorem Qdw (a : Int) (bs:List Int) (b:Int):Qb0 a (bs++[b])=Qe7 a (Qb0 a bs) b:=by simp [Qb0]
theorem QjV (a o b:Int):isN (Qe7 a o b):=by
  unfold Qe7
  split <;> exact isN_mod _
theorem Qlc : isN 1:=by unfold isN p; decide
theorem Qdq (a : Int):∀ bs:List Int,isN (Qb0 a bs):=fun bs=>by
  rcases List.eq_nil_or_concat bs with h | ⟨l,b,h⟩
  · subst h; exact Qlc
  · subst h; rw [List.concat_eq_append,Qdw]; exact QjV _ _ _
def cnt (bs : List Int):Nat:=bs.foldl (fun n b=>2*n+(if b=0 then 0 else 1)) 0
theorem Qn1 (bs : List Int) (b:Int):cnt (bs++[b])=2*cnt bs+(if b=0 then 0 else 1):=by simp [cnt]
theorem Qja (a : Int):∀ bs:List Int,Qb0 a bs=a^cnt bs%p:=fun bs=>by
  have key:∀ r:List Int,Qb0 a r.reverse=a^cnt r.reverse%p:=by
    intro r
    induction r with
    | nil =>
      show (1:Int)=a^0%p
      rw [Int.pow_zero]
      decide
    | cons b r ih =>
      rw [List.reverse_cons,Qdw,Qn1,ih]
      unfold Qe7
      have sq:a^cnt r.reverse%p*(a^cnt r.reverse%p)%p=a^(2*cnt r.reverse)%p:=by
        rw [←Int.mul_emod,←Int.pow_add,Nat.two_mul]
      by_cases hb:b=0
      · rw [if_pos hb,if_pos hb,sq,Nat.add_zero]
      · rw [if_neg hb,if_neg hb,sq,Int.pow_succ]
        generalize a^(2*cnt r.reverse)=c
        rw [Int.mul_emod (c%p),Int.emod_emod,←Int.mul_emod]
  have:=key bs.reverse
  rwa [List.reverse_reverse] at this
theorem QiK (v : Int) (h:0≤v∧v≤255):bits .and .i64 v 1=v%2:=by
  obtain ⟨n,rfl⟩:=Int.eq_ofNat_of_zero_le h.1
  have key:∀ n:Nat,n<256→bits .and .i64 (n:Int) 1=(n:Int)%2:=by decide +kernel
  exact key n (by omega)
set_option maxHeartbeats 2000000 in
theorem Qkn (m : Nat) (hm:1≤m) (kb n₀:Nat) (es:List Int) (hel:es.length=32) (hb:Qaj es) (w:World) (hkb:w.heap[kb]? = some (.cells (ints .u8 es) 23)) (hk:kb<n₀) (hn₀:n₀≤w.heap.size) :
    SeqStopsK Fence.wide m Tryd.prog 82 #[.pointer (some ⟨kb,0,none⟩)] (fun x:Int=>#[Value.int .i64 x]) (Below n₀) (fun ys=>ys=QbL es) (fun pre=>pre <+: QbL es) 256 w:=fun l J Jx W hW hJ hJx hY h0=>by
  refine callsIn_of_wp Tryd.func82 rfl trivial ?_ rfl
  simp only [Tryd.ntmps82,List.size_toArray,List.length_cons,List.length_nil,Nat.reduceAdd,Nat.reduceSub,Array.replicate_succ,Array.replicate_zero,List.push_toArray,List.append_toArray,List.nil_append,List.cons_append]
  have hkW:W.heap[kb]? = some (.cells (ints .u8 es) 23):=(hW.block kb (QaB hkb)).trans hkb
  gi_wp2
  gi_loopw [3] (fun i wr=>∃ k:Nat,k≤256∧i=.int .i64 ((k:Int)-1)∧J ((QbL es).take (256-k)) wr∧Below n₀ W wr) (fun i _=>(intOf i+1).toNat)
  case atStart=>exact ⟨256,by omega,rfl,by simpa using h0,Below.refl _ _⟩
  case round =>
    obtain ⟨k,hk256,rfl,hJs,hB⟩:=hrel
    rcases k with _ | j
    · gi_wp2
      go_end0
      exact ⟨⟨_,rfl⟩,.inl ⟨_,rfl,by rwa [List.take_of_length_le (by rw [Qg0]; omega)] at hJs⟩⟩
    · have hj:j<256:=by omega
      rw [show ((j+1:Nat):Int)-1=(j:Int) by omega]
      have hkw:wr.heap[kb]? = some (.cells (ints .u8 es) 23):=(hB.block kb hk).trans hkW
      have hX:(ints .u8 es)[j/8]? = some (.int .u8 (nth es (j/8))):=Qar _ _ _ (by omega)
      have hcx:=Qa9 hkw hX
      obtain ⟨fn,tmps,assign,body,hy,hR⟩:=hY _ (QcV es j) wr hJs (by rw [List.length_take,Qg0]; omega)
      have hT:=Lib.hid (QiH es j hj)
      have b1:=hb.nth (j/8)
      rw [show QcV es j=nth es (j/8)/2^(j%8)%2 from rfl] at hy
      generalize QcV es j=bt at *
      generalize nth es (j/8)=v at *
      have q0:(0:Int)≤(j:Int):=by omega
      have q1:(j:Int)/8<32:=by omega
      have q2:IntKind.i64.wrap ((j:Int)/8)=(j:Int)/8:=IntWalk.i64_in _ (by omega)
      have qm:(j:Int).tmod 8=(j:Int)%8:=Int.tmod_eq_emod_of_nonneg (by omega)
      have q3:IntKind.i64.wrap ((j:Int)%8)=(j:Int)%8:=IntWalk.i64_in _ (by omega)
      have q4:(0:Int)≤(j:Int)/8:=by omega
      have q5:((j:Int)/8).toNat=j/8:=by omega
      have q6:((j:Int)%8).toNat=j%8:=by omega
      have q7:(0:Int)≤(j:Int)%8:=by omega
      have q8:(j:Int)%8<8:=by omega
      have hp:(1:Int)≤2^(j%8):=by
        have:(0:Int)<2^(j%8):=Int.pow_pos (by decide)
        omega
      have d1:0≤v/2^(j%8):=Int.ediv_nonneg b1.1 (by omega)
      have d2:v/2^(j%8)≤v:=Int.ediv_le_self _ b1.1
      have w1:IntKind.i64.wrap (v/2^(j%8))=v/2^(j%8):=IntWalk.i64_in _ (by omega)
      have w2:=QiK (v/2^(j%8)) (by omega)
      gi_wp2
      refine hR.mono ?_
      rintro e W3 (⟨rfl,hJ3,hk3⟩ | ⟨rfl,hJx3⟩)
      · gi_wp2
        go_roundw
        case rel=>exact ⟨j,by omega,rfl,by rw [hT.out]; exact hJ3,hB.trans hk3⟩
        case measure=>simp [intOf]
      · gi_wp2
        refine bodyPost_ret (results_none rfl _ _ _) rfl ?_
        exact ⟨⟨_,rfl⟩,.inr ⟨_,by rw [←hT.out]; exact List.take_prefix _ _,hJx3⟩⟩
end Go.Proofs.YtdoadngmgmdlbaaDoor.Field
end
section
namespace Go.Proofs.YtdoadngmgmdlbaaDoor.Field
open Go Go.RowKit Go.Shelf
open Rely
attribute [local go_sem] Oper.semAt_some
def QeL (es : List Int):Fact:=fun v W=>∃ kb,v=.func (.func 82) #[] #[.pointer (some ⟨kb,0,none⟩)]∧W.heap[kb]? = some (.cells (ints .u8 es) 23)
theorem QdN (es : List Int):QbP Ext (QeL es):=fun v W W' hR ⟨kb,h1,h2⟩=>⟨kb,h1,Qaa h2 hR⟩
theorem QfW (es : List Int) (w:World):Calls Tryd.prog 46 #[.agg (ints .u8 es)] w (Qgc w (QeL es)):=by
  have hmf:∀ (fn:Fn) (first cap:Array Value) (w:World),(Instr.makeFunc fn first cap).run Tryd.prog w=.ok (.func fn first cap) w:=fun _ _ _ _=>rfl
  go_enter Tryd.func46,Tryd.ntmps46
  go_wp2_with fail
  exact bodyPost_ret (results_tmp rfl _ _ _) rfl ⟨_,rfl,QaG _ _,w.heap.size,rfl,heap_alloc_new _ _⟩
set_option maxRecDepth 100000 in
theorem power (a : Int) (ha:isN a) (es:List Int) (hel:es.length=32) (hb:Qaj es) (v:Value) (w:World) (hv:QeL es v w) :
    Calls Tryd.prog 92 #[num a,v] w (Ret w (num (Qb0 a (QbL es)))):=by
  obtain ⟨kb,rfl,hkb⟩:=hv
  have HS:Hid (∀ w,Calls Tryd.prog 67 #[.int .i64 1] w (Ret w (num 1))):=Lib.hid fun w=>by have:=Qf3 1 (by decide) w; rw [show (1:Int)%p=1 by decide] at this; exact this
  have hnf:∀ W,(binOp .eql 80 (.func (.func 82) #[] #[.pointer (some ⟨kb,0,none⟩)]) Value.nilFunc).run Tryd.prog W=.ok (.bool false) W:=fun W=>kj
  rw [show num a=.agg (numA a) from rfl]
  refine (callsIn_wide (n:=3)).1 <| callsIn_of_wp_marks Tryd.func92 rfl trivial ?_ rfl
  simp only [Tryd.ntmps92,List.size_toArray,List.length_cons,List.length_nil,Nat.reduceAdd,Nat.reduceSub,Array.replicate_succ,Array.replicate_zero,List.push_toArray,List.append_toArray,List.nil_append,List.cons_append]
  gi_wp2_with first
    | (refine ⟨trivial,?_⟩
       gi_at_call 67
       refine (callsIn_wide.2 (HS.out _)).mono ?_
       rintro e w' ⟨rfl,hw⟩)
    | (with_reducible show wpListIn _ _ _ _ _ ((⟨_,.store 49 _ _,_,_,_,_⟩:Oper)::_) _ _
       refine QbB rfl 49 _ _ rfl w'.heap.size (numA 1) rfl rfl 49 _ (heap_alloc_new _ _) QaU rfl (Qb9 _) ?_)
  have hO:((w'.alloc (.cells #[.int .u64 0,.int .u64 0,.int .u64 0,.int .u64 0] 49)).setRow w'.heap.size (numA 1)).heap[w'.heap.size]? = some (.cells (numA 1) 49):=setRow_heap _ _ _ _ _ _ (heap_alloc_new _ _)
  have hq:w.heap.size+2≤w'.heap.size:=by have:=hw.size; simpa using this
  have he1:Ext w w':=Ext.trans (Ext.trans (QaG _ _) (QaG _ _)) hw
  have hA1:w'.heap[w.heap.size]? = some (.cells (numA a) 49):=Qaa (by rw [Below.heap_alloc _ _ _ (by simp)]; exact heap_alloc_new _ _) hw
  have hR1:∃ b:Array Value,b.size=4∧w'.heap[w.heap.size+1]? = some (.cells b 49):=⟨_,rfl,Qaa (by have:=heap_alloc_new (w.alloc (.cells (numA a) 49)) (.cells #[.int .u64 0,.int .u64 0,.int .u64 0,.int .u64 0] 49); simpa using this) hw⟩
  have he2:Ext w' ((w'.alloc (.cells #[.int .u64 0,.int .u64 0,.int .u64 0,.int .u64 0] 49)).setRow w'.heap.size (numA 1)):=QaA (QaG _ _) (qR _) _
  have hA:=Qaa hA1 he2
  obtain ⟨b,hbs,hR1⟩:=hR1
  have hR:=Qaa hR1 he2
  have he:=Ext.trans he1 he2
  have hkV:=Qaa hkb he
  have hkl:=QaB hkb
  generalize (w'.alloc (.cells #[.int .u64 0,.int .u64 0,.int .u64 0,.int .u64 0] 49)).setRow w'.heap.size (numA 1)=V at *
  generalize w'.heap.size=gO at *
  clear hA1 hR1 he1 he2 hw HS hnf
  have hsz:=he.size
  refine wpIn_rangeFunc_ownF rfl (by omega) (gf:=82) (lb:=#[.pointer (some ⟨kb,0,none⟩)]) rfl trivial (enters_of Tryd.func82 kj rfl)
    (Qkn _ (by omega) kb w.heap.size es hel hb V hkV hkl hsz) belowK_t (belowK_b hsz) (Below.refl _ _) (fun _=>rfl)
    (fun pre W=>(W.heap[gO]? = some (.cells (numA (Qb0 a pre)) 49)∧W.heap[w.heap.size]? = some (.cells (numA a) 49)∧W.heap[w.heap.size+1]? = some (.cells b 49))∧Below w.heap.size w W)
    (fun _ _ _=>False)
    (OwnFrom.and (Own.from (fun s A B row hs hg hr=>⟨Qb8 hs.1 hg hr,Qb8 hs.2.1 hg hr,Qb8 hs.2.2 hg hr⟩) _) (ownFrom_below (qR _) hsz))
    (fun _ _ _ _ _ hs _ _=>hs)
    ⟨⟨hO,hA,hR⟩,he⟩
    (fun x=>{ tmps:=#[.agg (numA a),.func (.func 82) #[] #[.pointer (some ⟨kb,0,none⟩)],.pointer (some ⟨w.heap.size,0,none⟩),undef,.pointer (some ⟨w.heap.size+1,0,none⟩),.pointer (some ⟨gO,0,none⟩),.int .i64 x,num 1,
      .func (.func 82) #[] #[.pointer (some ⟨kb,0,none⟩)],.bool false,undef,.func (.func 82) #[] #[.pointer (some ⟨kb,0,none⟩)],.int .i64 x,undef,undef,undef,undef,undef,undef,undef,undef,undef],defers:=[] }) ?assign ?body ?done ?stop
  case assign =>
    intro l x W K hK
    gi_wp2
    exact hK
  case body =>
    clear hO hA hR hkV hsz he
    rintro l pre x W ⟨⟨hO,hA,hR⟩,hB⟩ _
    have io:=Qdq a pre
    have HM:Hid (∀ w,Calls Tryd.prog 66 #[.agg (numA (Qb0 a pre)),.agg (numA (Qb0 a pre))] w (Ret w (.agg (numA (Qb0 a pre*Qb0 a pre%p))))):=Lib.hid (mul _ _ io io)
    have hsn:=Qdw a pre x
    have hlA:=QaB hA
    by_cases hx:x=0
    · have hval:Qb0 a (pre++[x])=Qb0 a pre*Qb0 a pre%p:=by rw [hsn]; unfold Qe7; rw [if_pos hx]
      have HV:=Lib.hid hval
      clear hval hsn
      generalize hoo:Qb0 a pre=o at *
      generalize ho2:o*o%p=o2 at *
      gi_wp2_with first
        | (refine ⟨trivial,?_⟩
           gi_at_call 66
           refine (CallsIn.inRound l (callsIn_wide.2 (HM.out _))).mono ?_
           rintro e w2 ⟨rfl,hw2⟩
           have hO2:=Qaa hO hw2)
        | (with_reducible show wpListIn _ _ _ _ _ ((⟨_,.load 49 _,_,_,_,_⟩:Oper)::_) _ _
           refine QbH rfl 49 _ rfl gO rfl 49 _ (0,0) _ hO Tryd.underlying49 rfl QaU ?_)
        | (with_reducible show wpListIn _ _ _ _ _ ((⟨_,.store 49 _ _,_,_,_,_⟩:Oper)::_) _ _
           refine QbB rfl 49 _ _ rfl gO (numA o2) rfl rfl 49 _ hO2 QaU rfl (Qb9 _) ?_)
      refine ⟨(QbU hw2).trans (Qdi hO2 _),QdO (QeK hw2 (by omega)) (by omega) _,⟨?_,(setRow_other _ _ _ _ (by omega)).trans (Qaa hA hw2),(setRow_other _ _ _ _ (by omega)).trans (Qaa hR hw2)⟩,QdO (hB.trans (QeK hw2 (by omega))) (by omega) _⟩
      rw [HV.out]
      exact setRow_heap _ _ _ _ _ _ hO2
    · have hval:Qb0 a (pre++[x])=Qb0 a pre*Qb0 a pre%p*a%p:=by rw [hsn]; unfold Qe7; rw [if_neg hx]
      have HV:=Lib.hid hval
      have HM2:Hid (∀ w,Calls Tryd.prog 66 #[.agg (numA (Qb0 a pre*Qb0 a pre%p)),.agg (numA a)] w (Ret w (.agg (numA (Qb0 a pre*Qb0 a pre%p*a%p))))):=Lib.hid (mul _ _ (isN_mod _) ha)
      clear hval hsn
      generalize hoo:Qb0 a pre=o at *
      generalize ho2:o*o%p=o2 at *
      generalize ho3:o2*a%p=o3 at *
      gi_wp2_with first
        | (refine ⟨trivial,?_⟩
           gi_at_call 66
           refine (CallsIn.inRound l (callsIn_wide.2 (HM.out _))).mono ?_
           rintro e w2 ⟨rfl,hw2⟩
           clear HM
           have hO2:=Qaa hO hw2
           clear hO)
        | (refine ⟨trivial,?_⟩
           gi_at_call 66
           refine (CallsIn.inRound l (callsIn_wide.2 (HM2.out _))).mono ?_
           rintro e w4 ⟨rfl,hw4⟩
           clear HM2
           have hO4:=Qaa hO3 hw4
           clear hO3)
        | (with_reducible show wpListIn _ _ _ _ _ ((⟨_,.load 49 _,_,_,_,_⟩:Oper)::_) _ _
           refine QbH rfl 49 _ rfl gO rfl 49 _ (0,0) _ hO Tryd.underlying49 rfl QaU ?_)
        | (with_reducible show wpListIn _ _ _ _ _ ((⟨_,.load 49 _,_,_,_,_⟩:Oper)::_) _ _
           refine QbH rfl 49 _ rfl gO rfl 49 _ (0,0) _ hO3 Tryd.underlying49 rfl QaU ?_)
        | (with_reducible show wpListIn _ _ _ _ _ ((⟨_,.load 49 _,_,_,_,_⟩:Oper)::_) _ _
           refine QbH rfl 49 _ rfl w.heap.size rfl 49 _ (0,0) _ hA3 Tryd.underlying49 rfl QaU ?_)
        | (with_reducible show wpListIn _ _ _ _ _ ((⟨_,.store 49 _ _,_,_,_,_⟩:Oper)::_) _ _
           refine QbB rfl 49 _ _ rfl gO (numA o2) rfl rfl 49 _ hO2 QaU rfl (Qb9 _) ?_
           have hO3:=setRow_heap _ _ _ (numA o2) _ _ hO2
           have hA3:=(setRow_other _ gO w.heap.size (numA o2) (by omega)).trans (Qaa hA hw2)
           have hR3:=(setRow_other _ gO (w.heap.size+1) (numA o2) (by omega)).trans (Qaa hR hw2)
           have hk3:=(QbU hw2).trans (Qdi hO2 (numA o2))
           have hb3:=QdO (QeK (n:=w.heap.size) hw2 (by omega)) (show w.heap.size≤gO by omega) (numA o2)
           clear hO2 hw2)
        | (with_reducible show wpListIn _ _ _ _ _ ((⟨_,.store 49 _ _,_,_,_,_⟩:Oper)::_) _ _
           refine QbB rfl 49 _ _ rfl gO (numA o3) rfl rfl 49 _ hO4 QaU rfl (Qb9 _) ?_)
      have hl3:=QaB hA3
      have hb5:=QdO (hb3.trans (QeK hw4 (by omega))) (show w.heap.size≤gO by omega) (numA o3)
      refine ⟨(hk3.trans (QbU hw4)).trans (Qdi hO4 _),hb5,⟨?_,(setRow_other _ _ _ _ (by omega)).trans (Qaa hA3 hw4),(setRow_other _ _ _ _ (by omega)).trans (Qaa hR3 hw4)⟩,hB.trans hb5⟩
      rw [HV.out]
      exact setRow_heap _ _ _ _ _ _ hO4
  case done =>
    rintro D ys W hD rfl ⟨⟨hO,hA,hR⟩,hB⟩ hK
    gi_wp2_with first
        | (with_reducible show wpListIn _ _ _ _ _ ((⟨_,.load 49 _,_,_,_,_⟩:Oper)::_) _ _
           refine QbH rfl 49 _ rfl gO rfl 49 _ (0,0) _ hO Tryd.underlying49 rfl QaU ?_)
        | (with_reducible show wpListIn _ _ _ _ _ ((⟨_,.store 49 _ _,_,_,_,_⟩:Oper)::_) _ _
           refine QbB rfl 49 _ _ rfl (w.heap.size+1) (numA (Qb0 a (QbL es))) rfl rfl 49 _ hR QaU hbs (Qb9 _) ?_)
    have hK':=(Qdi hR (numA (Qb0 a (QbL es)))).same D _ hK rfl
    refine ⟨by simp,.inl ⟨_,_,rfl,run_takeDeferred hK',?_⟩⟩
    exact ⟨_,results_cell_row (p:=4) rfl _ _ (w.heap.size+1) 49 (numA (Qb0 a (QbL es))) (0,0) _ rfl (Qb8 (setRow_heap _ _ _ _ _ _ hR) (grownBy_putObj' _ D (.deferred none)) (fun r e=>by cases e; exact ⟨_,hK',rfl⟩)) Tryd.underlying49 rfl QaU,rfl,
      (QdO hB (by omega) _).trans (belowK_b (w:=w) (qR _) _ D _ _ (by omega) hK' rfl rfl)⟩
  case stop =>
    rintro D c pre W _ _ h _
    exact h.elim
end Go.Proofs.YtdoadngmgmdlbaaDoor.Field
end
section
namespace Go.Proofs.YtdoadngmgmdlbaaDoor.Field
open Go Go.RowKit
open Rely
def expo (lo hi:Int):List Int:=lo::(List.replicate 30 255++[hi])
theorem QeG (lo hi:Int):(expo lo hi).length=32:=by simp [expo]
theorem QeW (lo hi:Int) (hl:0≤lo∧lo≤255) (hh:0≤hi∧hi≤255):Qaj (expo lo hi):=fun x hx=>by
  simp only [expo,List.mem_cons,List.mem_append,List.mem_replicate,List.not_mem_nil,or_false] at hx
  omega
theorem Qnt (lo hi:Int):((ints .u8 (mix 32 (fun _=>255) (fun _=>0) 32)).setIfInBounds 0 (.int .u8 lo)).setIfInBounds 31 (.int .u8 hi)=ints .u8 (expo lo hi):=by
  rw [Qbx,Qbx]
  rfl
theorem exponent (lo hi:Int) (w:World):Calls Tryd.prog 93 #[.int .u8 lo,.int .u8 hi] w (Ret w (.agg (ints .u8 (expo lo hi)))):=by
  go_enter Tryd.func93,Tryd.ntmps93
  go_wp2_with fail
  go_loopw [6,7] (fun c i wr=>∃ k:Nat,k≤32∧i=.int .i64 k∧Ext w wr∧(∃ b,b.size=32∧wr.heap[w.heap.size]? = some (.cells b 23)) ∧
    wr.heap[w.heap.size+1]? = some (.cells (ints .u8 (mix 32 (fun _=>255) (fun _=>0) k)) 23)) (fun _ i _=>32-(intOf i).toNat)
  case atStart=>exact ⟨0,by omega,rfl,Ext.trans (QaG _ _) (QaG _ _),⟨_,rfl,Qec _ _ _⟩,Qeb _ _ _⟩
  case round =>
    obtain ⟨k,hk,rfl,he,⟨b,hbs,hB⟩,hC⟩:=hrel
    by_cases hlt:k<32
    · have hZ:(ints .u8 (mix 32 (fun _=>255) (fun _=>0) k))[k]? = some (.int .u8 0):=by rw [Qar _ _ _ (by rw [mix_len]; omega),QbJ _ _ _ _ _ (by omega),if_neg (by omega)]
      have hS:(ints .u8 (mix 32 (fun _=>255) (fun _=>0) k)).setIfInBounds k (.int .u8 255)=ints .u8 (mix 32 (fun _=>255) (fun _=>0) (k+1)):=by rw [Qbx,←mix_set _ _ _ _ (by omega)]
      have hcx:=Qa9 hC hZ
      have hfx:=Qbm hC k
      have q5:(k:Int)<32:=by omega
      go_wp2
      exact ⟨⟨k+1,by omega,by go_num,QbS he (by omega) _ _,⟨b,hbs,(Qa3 _ _ (by omega)).trans hB⟩,(QbQ _ _ hC).trans (by rw [hS])⟩,by simp [intOf]; omega⟩
    · obtain rfl:k=32:=by omega
      have hX:(ints .u8 (mix 32 (fun _=>255) (fun _=>0) 32))[0]? = some (.int .u8 255):=by rw [Qar _ _ _ (by rw [mix_len]; omega),QbJ _ _ _ _ _ (by omega),if_pos (by omega)]
      have hY:(ints .u8 (mix 32 (fun _=>255) (fun _=>0) 32))[31]? = some (.int .u8 255):=by rw [Qar _ _ _ (by rw [mix_len]; omega),QbJ _ _ _ _ _ (by omega),if_pos (by omega)]
      have hcx:=Qa9 hC hX
      have hfx:=Qbm hC 0
      have hC2:=QbQ 0 (.int .u8 lo) hC
      have hcy:(wr.setCell ⟨w.heap.size+1,0,none⟩ (.int .u8 lo)).cell? ⟨w.heap.size+1,31,none⟩=some (.int .u8 255):=Qa9 hC2 (by rw [Array.getElem?_setIfInBounds_ne (by decide)]; exact hY)
      have hfy:=Qbm hC2 31
      have hB2:=(Qa3 (W:=wr) 0 (.int .u8 lo) (show w.heap.size≠w.heap.size+1 by omega)).trans hB
      have he2:=QbS he (show w.heap.size≤w.heap.size+1 by omega) 0 (.int .u8 lo)
      generalize hwz:wr.setCell ⟨w.heap.size+1,0,none⟩ (.int .u8 lo)=wz at *
      have hC3:=QbQ 31 (.int .u8 hi) hC2
      rw [Qnt] at hC3
      have hB3:=(Qa3 (W:=wz) 31 (.int .u8 hi) (show w.heap.size≠w.heap.size+1 by omega)).trans hB2
      have he3:=QbS he2 (show w.heap.size≤w.heap.size+1 by omega) 31 (.int .u8 hi)
      generalize hwy:wz.setCell ⟨w.heap.size+1,31,none⟩ (.int .u8 hi)=wy at *
      have hi':(Tryd.prog.info? 23).map (·.size)=some (ints .u8 (expo lo hi)).size:=by rw [infoKey,Qad,QeG]
      have hbl:b.size=(ints .u8 (expo lo hi)).size:=by rw [hbs,Qad,QeG]
      clear hC hC2 hB hB2 he he2
      go_wp2_with first
        | (with_reducible show wpList _ _ _ ((⟨_,.load 23 _,_,_,_,_⟩:Oper)::_) _ _
           refine wpList_load_row rfl 23 _ rfl (w.heap.size+1) rfl 23 _ (0,0) _ hC3 Tryd.underlying23 rfl hi' ?_)
        | (with_reducible show wpList _ _ _ ((⟨_,.store 23 _ _,_,_,_,_⟩:Oper)::_) _ _
           refine wpList_store_row rfl 23 _ _ rfl w.heap.size _ rfl rfl 23 _ hB3 hi' hbl (ints_one _ _) ?_)
      exact bodyPost_ret (results_cell_row (p:=4) rfl _ _ w.heap.size 23 _ (0,0) _ rfl (setRow_heap _ _ _ _ _ _ hB3) Tryd.underlying23 rfl hi') rfl ⟨rfl,QaA he3 (qR _) _⟩
def invN (a : Int):Int:=Qb0 a (QbL (expo 235 127))
theorem QcT (a : Int):isN (invN a):=Qdq _ _
theorem inv (a : Int) (ha:isN a) (w:World):Calls Tryd.prog 70 #[num a] w (Ret w (num (invN a))):=by
  have HE:Hid (∀ w,Calls Tryd.prog 93 #[.int .u8 235,.int .u8 127] w (Ret w (.agg (ints .u8 (expo 235 127))))):=Lib.hid (exponent 235 127)
  have HB:Hid (∀ w,Calls Tryd.prog 46 #[.agg (ints .u8 (expo 235 127))] w (Qgc w (QeL (expo 235 127)))):=Lib.hid (QfW _)
  have HP:Hid (∀ v w,QeL (expo 235 127) v w→Calls Tryd.prog 92 #[num a,v] w (Ret w (num (invN a)))):=Lib.hid fun v w hv=>power a ha (expo 235 127) (QeG _ _) (QeW _ _ (by decide) (by decide)) v w hv
  generalize expo 235 127=ex at *
  generalize invN a=r at *
  rw [show num a=.agg (numA a) from rfl] at HP ⊢
  go_enter Tryd.func70,Tryd.ntmps70
  go_wp2_with fail
  generalize hW:(w.alloc _).alloc _=W0
  have hA:W0.heap[w.heap.size]? = some (.cells (numA a) 49):=by rw [←hW]; exact Qec _ _ _
  have hC:∃ b:Array Value,b.size=4∧W0.heap[w.heap.size+1]? = some (.cells b 49):=by rw [←hW]; exact ⟨_,rfl,Qeb _ _ _⟩
  obtain ⟨b,hbs,hC⟩:=hC
  have he:Ext w W0:=by rw [←hW]; exact Ext.trans (QaG _ _) (QaG _ _)
  clear hW
  refine Qa1 Ext 3 7 [⟨none,[(1,none)]⟩,⟨none,[]⟩,⟨none,[(4,some 1)]⟩] kj kj rfl Ext.refl Ext.trans (fun F r0 hr hF=>?_)
  have f1:r0 1=.pointer (some ⟨w.heap.size,0,none⟩):=by rw [hr]; rfl
  clear hr
  simp only [List.take_succ_cons,List.take_zero]
  refine Qao (.agg (numA a)) (fun ρ W hR hh=>?_) ?_
  · exact Qa6 49 (.tmp _) rfl _ (Eq.trans hh.1 f1) 49 _ (0,0) _ (Qaa (Qaa hA (Qae _)) hR) Tryd.underlying49 rfl QaU
  refine Qao (.agg (ints .u8 ex)) (fun ρ W hR hh=>?_) ?_
  · simp only [guarded,QaM]
    go_simp
    exact ⟨Ext.refl _,(HE.out _).mono fun _ _ h=>h.const⟩
  refine QdB (QeL ex) (QdN ex) (fun ρ W hR hh=>?_) ?_
  · have h4:ρ 4=.agg (ints .u8 ex):=hh.1
    simp only [guarded,QaM]
    go_simp
    exact ⟨Ext.refl _,(HB.out _).mono fun _ _ h=>h.fact⟩
  simp only [List.cons_append,List.nil_append]
  refine hF.out fun W hR=>?_
  simp only [List.take_succ_cons,List.take_zero,List.drop_succ_cons,List.drop_zero,fin,forall_eq,Act.put,List.setIfInBounds_toArray,List.set_cons_zero,List.set_cons_succ]
  intro v hv
  have HP':=Lib.hid (HP.out v W hv)
  clear hF HP HE HB hv
  go_wp2_with first
    | (go_at_call 92
       (with_reducible refine HP'.out.mono ?_)
       rintro e w' ⟨rfl,hw⟩
       have hC':=Qaa (Qaa (Qaa hC (Qae _)) hR) hw
       have he':=Ext.trans (Ext.trans (Ext.trans he (Qae _)) hR) hw)
    | (with_reducible show wpList _ _ _ ((⟨_,.store 49 _ _,_,_,_,_⟩:Oper)::_) _ _
       refine wpList_store_row rfl 49 _ _ rfl (w.heap.size+1) (numA r) rfl rfl 49 _ hC' QaU hbs (Qb9 _) ?_)
  exact bodyPost_ret (Qdv (t:=2) rfl rfl (setRow_heap _ _ _ _ _ _ hC')) rfl ⟨rfl,QaA he' (by omega) _⟩
end Go.Proofs.YtdoadngmgmdlbaaDoor.Field
end
section
namespace Go.Proofs.YtdoadngmgmdlbaaDoor.Field
open Go Go.RowKit
open Rely
def lbit (e : Int) (i:Nat):Int:=limb e (i/16)/2^(i%16)%2
def lbits (e : Int):List Int:=(List.range 256).map fun j=>lbit e (255-j)
theorem Qlq (e : Int):(lbits e).length=256:=by simp [lbits]
theorem Qkh (e : Int) (j:Nat) (hj:j<256):(lbits e).take (256-j)=(lbits e).take (256-(j+1))++[lbit e j]:=by
  have h0:256-j=(256-(j+1))+1:=by omega
  rw [h0,List.take_add_one]
  congr 1
  have h:256-(j+1)<256:=by omega
  simp only [lbits,List.getElem?_map,List.getElem?_range h,Option.map_some,Option.toList_some]
  rw [show 255-(256-(j+1))=j by omega]
set_option maxHeartbeats 1000000 in
theorem Qlu (x e:Int) (hx:isN x) (he0:0≤e∧e<big) (w:World):Calls Tryd.prog 83 #[lnum x,lnum e] w (Ret w (lnum (Qb0 x (lbits e)))):=by
  have h1':ints .i64 (lims 1)=#[.int .i64 1,.int .i64 0,.int .i64 0,.int .i64 0,.int .i64 0,.int .i64 0,.int .i64 0,.int .i64 0,.int .i64 0,.int .i64 0,.int .i64 0,.int .i64 0,.int .i64 0,.int .i64 0,.int .i64 0,.int .i64 0]:=by rw [Qjn]; rfl
  unfold lnum
  go_enter Tryd.func83,Tryd.ntmps83
  go_wp2_with fail
  generalize hW:(((w.alloc _).alloc _).alloc _).alloc _=W0
  have hA:W0.heap[w.heap.size]? = some (.cells (ints .i64 (lims x)) 58):=by rw [←hW]; exact Qhl _ _ _ _ _
  have hE:W0.heap[w.heap.size+1]? = some (.cells (ints .i64 (lims e)) 58):=by rw [←hW]; exact Qhk _ _ _ _ _
  have hR:∃ b:Array Value,b.size=16∧W0.heap[w.heap.size+1+1]? = some (.cells b 58):=by rw [←hW]; exact ⟨_,rfl,Qhj _ _ _ _ _⟩
  have hO:W0.heap[w.heap.size+1+1+1]? = some (.cells (ints .i64 (lims 1)) 58):=by rw [←hW,h1']; exact Qhi _ _ _ _ _
  have he:Ext w W0:=by rw [←hW]; exact ext4 _ _ _ _ _
  clear hW h1'
  go_loopw [6] (fun i wr=>∃ k:Nat,k≤256∧i=.int .i64 ((k:Int)-1)∧Ext w wr∧wr.heap[w.heap.size]? = some (.cells (ints .i64 (lims x)) 58)∧wr.heap[w.heap.size+1]? = some (.cells (ints .i64 (lims e)) 58) ∧
    (∃ b,b.size=16∧wr.heap[w.heap.size+1+1]? = some (.cells b 58))∧wr.heap[w.heap.size+1+1+1]? = some (.cells (ints .i64 (lims (Qb0 x ((lbits e).take (256-k))))) 58)) (fun i _=>(intOf i+1).toNat)
  case atStart=>exact ⟨256,by omega,rfl,he,hA,hE,hR,hO⟩
  case round =>
    clear hA hE hR hO he
    obtain ⟨k,hk,rfl,he,hA,hE,⟨b,hbs,hR⟩,hO⟩:=hrel
    rcases k with _ | j
    · rw [List.take_of_length_le (by rw [Qlq]; omega)] at hO
      have hrl:=Qa0 (Qb0 x (lbits e))
      go_wp2_with first
        | (with_reducible show wpList _ _ _ ((⟨_,.load 58 _,_,_,_,_⟩:Oper)::_) _ _
           refine wpList_load_row rfl 58 _ rfl (w.heap.size+1+1+1) rfl 58 _ (0,0) _ hO Tryd.underlying58 rfl (QaY _ hrl) ?_)
        | (with_reducible show wpList _ _ _ ((⟨_,.store 58 _ _,_,_,_,_⟩:Oper)::_) _ _
           refine wpList_store_row rfl 58 _ _ rfl (w.heap.size+1+1) _ rfl rfl 58 _ hR (QaY _ hrl) (by rw [hbs,Qad,hrl]) (ints_one _ _) ?_)
      exact bodyPost_ret (results_cell_row (p:=4) rfl _ _ (w.heap.size+1+1) 58 _ (0,0) _ rfl (setRow_heap _ _ _ _ _ _ hR) Tryd.underlying58 rfl (QaY _ hrl)) rfl ⟨rfl,QaA he (by omega) _⟩
    · have hj:j<256:=by omega
      rw [show ((j+1:Nat):Int)-1=(j:Int) by omega]
      have HT:=Lib.hid (Qkh e j hj)
      have hsn:=Qdw x ((lbits e).take (256-(j+1))) (lbit e j)
      have io:=Qdq x ((lbits e).take (256-(j+1)))
      generalize hoo:Qb0 x ((lbits e).take (256-(j+1)))=o at *
      have HM:Hid (∀ w,Calls Tryd.prog 58 #[.agg (ints .i64 (lims o)),.agg (ints .i64 (lims o))] w (Ret w (.agg (ints .i64 (lims (o*o%p)))))):=Lib.hid (lMul o o (QbR io) (QbR io))
      have HM2:Hid (∀ w,Calls Tryd.prog 58 #[.agg (ints .i64 (lims (o*o%p))),.agg (ints .i64 (lims x))] w (Ret w (.agg (ints .i64 (lims (o*o%p*x%p)))))):=Lib.hid (lMul _ _ (QbR (isN_mod _)) (QbR hx))
      have eb:lbit e j=limb e (j/16)/2^(j%16)%2:=rfl
      have b1:=QaS e (j/16)
      have hX:(ints .i64 (lims e))[j/16]? = some (.int .i64 (limb e (j/16))):=by rw [Qar _ _ _ (by rw [Qa0]; omega),QbZ _ _ (by omega)]
      generalize hv:limb e (j/16)=v at *
      have q0:(0:Int)≤(j:Int):=by omega
      have q1:(j:Int)/16<16:=by omega
      have q2:IntKind.i64.wrap ((j:Int)/16)=(j:Int)/16:=IntWalk.i64_in _ (by omega)
      have qm:(j:Int).tmod 16=(j:Int)%16:=Int.tmod_eq_emod_of_nonneg (by omega)
      have q3:IntKind.i64.wrap ((j:Int)%16)=(j:Int)%16:=IntWalk.i64_in _ (by omega)
      have q4:(0:Int)≤(j:Int)/16:=by omega
      have q5:((j:Int)/16).toNat=j/16:=by omega
      have q6:((j:Int)%16).toNat=j%16:=by omega
      have q7:(0:Int)≤(j:Int)%16:=by omega
      have q8:(j:Int)%16<16:=by omega
      have q9:IntKind.u64.wrap ((j:Int)%16)=(j:Int)%16:=by rw [IntKind.wrap_u64]; omega
      have q10:(j:Int)%16<64:=by omega
      have hp:(1:Int)≤2^(j%16):=by
        have:(0:Int)<2^(j%16):=Int.pow_pos (by decide)
        omega
      have d1:0≤v/2^(j%16):=Int.ediv_nonneg b1.1 (by omega)
      have d2:v/2^(j%16)≤v:=Int.ediv_le_self _ b1.1
      have w1:IntKind.i64.wrap (v/2^(j%16))=v/2^(j%16):=IntWalk.i64_in _ (by omega)
      have w2:(v/2^(j%16)).tmod 2=v/2^(j%16)%2:=Int.tmod_eq_emod_of_nonneg d1
      have w3:IntKind.i64.wrap (v/2^(j%16)%2)=v/2^(j%16)%2:=IntWalk.i64_in _ (by omega)
      have hlO:=QaB hO
      have r2:=Qa0 (o*o%p)
      have r3:=Qa0 (o*o%p*x%p)
      have r1:=Qa0 o
      have rx:=Qa0 x
      have EB:=Lib.hid eb
      have HSN:=Lib.hid hsn
      clear eb hsn
      by_cases hz:v/2^(j%16)%2=1
      · go_wp2_with first
          | (go_at_call 58
             (with_reducible refine (HM.out _).mono ?_)
             rintro e2 w2' ⟨rfl,hw2⟩
             clear HM
             have hO2:=Qaa hO hw2
             clear hO)
          | (go_at_call 58
             (with_reducible refine (HM2.out _).mono ?_)
             rintro e4 w4' ⟨rfl,hw4⟩
             clear HM2
             have hO4:=Qaa hO3 hw4
             clear hO3)
          | (with_reducible show wpList _ _ _ ((⟨_,.load 58 _,_,_,_,_⟩:Oper)::_) _ _
             refine wpList_load_row rfl 58 _ rfl (w.heap.size+1+1+1) rfl 58 _ (0,0) _ hO Tryd.underlying58 rfl (QaY _ r1) ?_)
          | (with_reducible show wpList _ _ _ ((⟨_,.load 58 _,_,_,_,_⟩:Oper)::_) _ _
             refine wpList_load_row rfl 58 _ rfl (w.heap.size+1+1+1) rfl 58 _ (0,0) _ hO3 Tryd.underlying58 rfl (QaY _ r2) ?_)
          | (with_reducible show wpList _ _ _ ((⟨_,.load 58 _,_,_,_,_⟩:Oper)::_) _ _
             refine wpList_load_row rfl 58 _ rfl w.heap.size rfl 58 _ (0,0) _ hA3 Tryd.underlying58 rfl (QaY _ rx) ?_)
          | (with_reducible show wpList _ _ _ ((⟨_,.store 58 _ _,_,_,_,_⟩:Oper)::_) _ _
             refine wpList_store_row rfl 58 _ _ rfl (w.heap.size+1+1+1) _ rfl rfl 58 _ hO2 (QaY _ r2) (by rw [Qad,Qad,r1,r2]) (ints_one _ _) ?_
             have hE3:=(setRow_other _ (w.heap.size+1+1+1) (w.heap.size+1) (ints .i64 (lims (o*o%p))) (by omega)).trans (Qaa hE hw2)
             have hA3:=(setRow_other _ (w.heap.size+1+1+1) w.heap.size (ints .i64 (lims (o*o%p))) (by omega)).trans (Qaa hA hw2)
             have hR3:=(setRow_other _ (w.heap.size+1+1+1) (w.heap.size+1+1) (ints .i64 (lims (o*o%p))) (by omega)).trans (Qaa hR hw2)
             have hO3:=setRow_heap _ _ _ (ints .i64 (lims (o*o%p))) _ _ hO2
             have he3:=QaA (Ext.trans he hw2) (show w.heap.size≤(w.heap.size+1+1+1) by omega) (ints .i64 (lims (o*o%p)))
             have hcx:=Qa9 hE3 hX
             clear hO2 hw2)
          | (with_reducible show wpList _ _ _ ((⟨_,.store 58 _ _,_,_,_,_⟩:Oper)::_) _ _
             refine wpList_store_row rfl 58 _ _ rfl (w.heap.size+1+1+1) _ rfl rfl 58 _ hO4 (QaY _ r3) (by rw [Qad,Qad,r2,r3]) (ints_one _ _) ?_)
        refine ⟨⟨j,by omega,rfl,QaA (Ext.trans he3 hw4) (by omega) _,(setRow_other _ _ _ _ (by omega)).trans (Qaa hA3 hw4),(setRow_other _ _ _ _ (by omega)).trans (Qaa hE3 hw4),⟨b,hbs,(setRow_other _ _ _ _ (by omega)).trans (Qaa hR3 hw4)⟩,?_⟩,by simp [intOf]⟩
        rw [HT.out,HSN.out]
        unfold Qe7
        rw [if_neg (by rw [EB.out]; omega)]
        exact setRow_heap _ _ _ _ _ _ hO4
      · have hz0:v/2^(j%16)%2=0:=by omega
        go_wp2_with first
          | (go_at_call 58
             (with_reducible refine (HM.out _).mono ?_)
             rintro e2 w2' ⟨rfl,hw2⟩
             have hO2:=Qaa hO hw2)
          | (with_reducible show wpList _ _ _ ((⟨_,.load 58 _,_,_,_,_⟩:Oper)::_) _ _
             refine wpList_load_row rfl 58 _ rfl (w.heap.size+1+1+1) rfl 58 _ (0,0) _ hO Tryd.underlying58 rfl (QaY _ r1) ?_)
          | (with_reducible show wpList _ _ _ ((⟨_,.store 58 _ _,_,_,_,_⟩:Oper)::_) _ _
             refine wpList_store_row rfl 58 _ _ rfl (w.heap.size+1+1+1) _ rfl rfl 58 _ hO2 (QaY _ r2) (by rw [Qad,Qad,r1,r2]) (ints_one _ _) ?_
             have hE3:=(setRow_other _ (w.heap.size+1+1+1) (w.heap.size+1) (ints .i64 (lims (o*o%p))) (by omega)).trans (Qaa hE hw2)
             have hcx:=Qa9 hE3 hX)
        refine ⟨⟨j,by omega,rfl,QaA (Ext.trans he hw2) (by omega) _,(setRow_other _ _ _ _ (by omega)).trans (Qaa hA hw2),(setRow_other _ _ _ _ (by omega)).trans (Qaa hE hw2),⟨b,hbs,(setRow_other _ _ _ _ (by omega)).trans (Qaa hR hw2)⟩,?_⟩,by simp [intOf]⟩
        rw [HT.out,HSN.out]
        unfold Qe7
        rw [if_pos (by rw [EB.out]; exact hz0)]
        exact setRow_heap _ _ _ _ _ _ hO2
theorem Qjm : lims 2=2::List.replicate 15 0:=by decide +kernel
theorem Qnj : lbits (p-2)=QbL (expo 235 127):=by decide +kernel
theorem lInv (a : Int) (ha:isN a) (w:World):Calls Tryd.prog 56 #[lnum a] w (Ret w (lnum (invN a))):=by
  have hp0:(0:Int)≤p∧p<big:=by decide
  have HP:Hid (∀ w,Calls Tryd.prog 85 #[] w (Ret w (lnum p))):=Lib.hid prime
  have HM:Hid (∀ w,Calls Tryd.prog 84 #[lnum p,lnum 2] w (Ret w (lnum (p-2)))):=Lib.hid fun w=>minus p 2 (by decide) (by decide) hp0.2 w
  have HW:Hid (∀ w,Calls Tryd.prog 83 #[lnum a,lnum (p-2)] w (Ret w (lnum (invN a)))):=Lib.hid fun w=>by
    have:=Qlu a (p-2) ha (by decide) w
    rw [Qnj] at this
    exact this
  have h2:lnum 2=.agg #[.int .i64 2,.int .i64 0,.int .i64 0,.int .i64 0,.int .i64 0,.int .i64 0,.int .i64 0,.int .i64 0,.int .i64 0,.int .i64 0,.int .i64 0,.int .i64 0,.int .i64 0,.int .i64 0,.int .i64 0,.int .i64 0]:=by unfold lnum; rw [Qjm]; rfl
  rw [h2] at HM
  unfold lnum at HM HP HW ⊢
  clear h2 hp0
  have ra:=Qa0 a
  have rr:=Qa0 (invN a)
  generalize lims (invN a)=res at *
  generalize lims (p-2)=lq at *
  generalize lims p=lp at *
  generalize lims a=la at *
  go_enter Tryd.func56,Tryd.ntmps56
  go_wp2_with fail
  generalize hW:(w.alloc _).alloc _=W0
  have hA:W0.heap[w.heap.size]? = some (.cells (ints .i64 la) 58):=by rw [←hW]; exact Qec _ _ _
  have hC:∃ b:Array Value,b.size=16∧W0.heap[w.heap.size+1]? = some (.cells b 58):=by rw [←hW]; exact ⟨_,rfl,Qeb _ _ _⟩
  obtain ⟨b,hbs,hC⟩:=hC
  have he:Ext w W0:=by rw [←hW]; exact Ext.trans (QaG _ _) (QaG _ _)
  clear hW
  refine Qa1 Ext 4 8 [⟨none,[(1,none)]⟩,⟨none,[]⟩,⟨none,[]⟩,⟨none,[(4,some 1),(5,some 2)]⟩] kj kj rfl Ext.refl Ext.trans (fun F r0 hr hF=>?_)
  have f1:r0 1=.pointer (some ⟨w.heap.size,0,none⟩):=by rw [hr]; rfl
  clear hr
  simp only [List.take_succ_cons,List.take_zero]
  refine Qao (.agg (ints .i64 la)) (fun ρ W hR hh=>?_) ?_
  · exact Qa6 58 (.tmp _) rfl _ (Eq.trans hh.1 f1) 58 _ (0,0) _ (Qaa (Qaa hA (Qae _)) hR) Tryd.underlying58 rfl (QaY _ ra)
  refine Qao (.agg (ints .i64 lp)) (fun ρ W hR hh=>?_) ?_
  · simp only [guarded,QaM]
    go_simp
    exact ⟨Ext.refl _,(HP.out _).mono fun _ _ h=>h.const⟩
  refine Qao (.agg #[.int .i64 2,.int .i64 0,.int .i64 0,.int .i64 0,.int .i64 0,.int .i64 0,.int .i64 0,.int .i64 0,.int .i64 0,.int .i64 0,.int .i64 0,.int .i64 0,.int .i64 0,.int .i64 0,.int .i64 0,.int .i64 0]) (fun ρ W hR hh=>?_) ?_
  · simp only [guarded,QaM]
    go_simp
    exact Ext.refl _
  refine Qao (.agg (ints .i64 lq)) (fun ρ W hR hh=>?_) ?_
  · have h4:ρ 4=.agg (ints .i64 lp):=hh.1
    have h5:ρ 5=.agg #[.int .i64 2,.int .i64 0,.int .i64 0,.int .i64 0,.int .i64 0,.int .i64 0,.int .i64 0,.int .i64 0,.int .i64 0,.int .i64 0,.int .i64 0,.int .i64 0,.int .i64 0,.int .i64 0,.int .i64 0,.int .i64 0]:=hh.2.1
    simp only [guarded,QaM]
    go_simp
    exact ⟨Ext.refl _,(HM.out _).mono fun _ _ h=>h.const⟩
  simp only [List.cons_append,List.nil_append]
  refine hF.out fun W hR=>?_
  simp only [List.take_succ_cons,List.take_zero,List.drop_succ_cons,List.drop_zero,fin,forall_eq,Act.put,List.setIfInBounds_toArray,List.set_cons_zero,List.set_cons_succ]
  clear hF
  go_wp2_with first
    | (go_at_call 83
       (with_reducible refine (HW.out _).mono ?_)
       rintro e w' ⟨rfl,hw⟩
       have hC':=Qaa (Qaa (Qaa hC (Qae _)) hR) hw
       have he':=Ext.trans (Ext.trans (Ext.trans he (Qae _)) hR) hw)
    | (with_reducible show wpList _ _ _ ((⟨_,.store 58 _ _,_,_,_,_⟩:Oper)::_) _ _
       refine wpList_store_row rfl 58 _ _ rfl (w.heap.size+1) _ rfl rfl 58 _ hC' (QaY _ rr) (by rw [hbs,Qad,rr]) (ints_one _ _) ?_)
  exact bodyPost_ret (results_cell_row (p:=2) rfl _ _ (w.heap.size+1) 58 _ (0,0) _ rfl (setRow_heap _ _ _ _ _ _ hC') Tryd.underlying58 rfl (QaY _ rr)) rfl ⟨rfl,QaA he' (by omega) _⟩
end Go.Proofs.YtdoadngmgmdlbaaDoor.Field
end
section
namespace Go.Proofs.YtdoadngmgmdlbaaDoor.Field
open Go Go.RowKit
open Rely
theorem QdM (A k P:Nat):((A:Int)^k)%(P:Int)=((A^k%P:Nat):Int):=by
  rw [Int.natCast_emod,Int.natCast_pow]
theorem QdY (x : Int) (hx:isN x) (h0:x≠0) (k:Nat) (hk:k=57896044618658097711785492504343953926634992332820282019728792003956564819949-1):x^k%p=1:=by
  obtain ⟨A,rfl⟩:=Int.eq_ofNat_of_zero_le hx.1
  have hA:A<57896044618658097711785492504343953926634992332820282019728792003956564819949:=by have:=hx.2; unfold p at this; omega
  have hA0:A≠0:=fun e=>h0 (by rw [e]; rfl)
  have hf:=Prime.p25519.2.1 A (by rw [Nat.mod_eq_of_lt hA]; exact hA0)
  rw [←hk] at hf
  have:=QdM A k 57896044618658097711785492504343953926634992332820282019728792003956564819949
  rw [hf] at this
  exact this
theorem Qpo : cnt (QbL (expo 235 127))+1=57896044618658097711785492504343953926634992332820282019728792003956564819949-1:=by decide +kernel
theorem Qpn (k : Nat) (h:k+1=57896044618658097711785492504343953926634992332820282019728792003956564819949-1) (x:Int) (hx:isN x) (h0:x≠0):x*(x^k%p)%p=1:=by
  have e:x^k*x=x^(k+1):=(Int.pow_succ x k).symm
  rw [Int.mul_emod,Int.emod_emod,←Int.mul_emod,Int.mul_comm,e]
  generalize k+1=m at *
  exact QdY x hx h0 m h
theorem QgY (x : Int) (hx:isN x) (h0:x≠0):x*invN x%p=1:=by
  unfold invN
  rw [Qja]
  exact Qpn _ Qpo x hx h0
end Go.Proofs.YtdoadngmgmdlbaaDoor.Field
end
section
namespace Go.Proofs.YtdoadngmgmdlbaaDoor.Field
open Go Go.RowKit
open Rely
theorem modL (a b:Int):a%p*b%p=a*b%p:=by rw [Int.mul_emod,Int.emod_emod,←Int.mul_emod]
theorem modR (a b:Int):a*(b%p)%p=a*b%p:=by rw [Int.mul_emod,Int.emod_emod,←Int.mul_emod]
theorem QfN (x : Int) (hx:isN x):x*1%p=x:=by rw [Int.mul_one,Int.emod_eq_of_lt hx.1 hx.2]
end Go.Proofs.YtdoadngmgmdlbaaDoor.Field
end
section
namespace Go.Proofs.YtdoadngmgmdlbaaDoor.Field
open Go Go.RowKit
open Rely
theorem Qpf (es : List Int) (hb:Qaj es) (k:Nat) (hk:k<16):limb (leAt es 0 32) k=QbE es k:=by
  have h:=QgQ es 16
  rw [show 2*16=32 from rfl] at h
  rw [←h]
  exact Qpe (QbE es) 16 (fun i _=>QcY es hb i) k hk
theorem Qjq (es : List Int) (hb:Qaj es):0≤leAt es 0 32∧leAt es 0 32<big:=by
  have h:=QbV es hb 0 32
  rw [show (256:Int)^32=big by decide] at h
  exact h
theorem Qh9 (a b:Int) (ha:0≤a∧a≤255) (r:Nat) (hr:r<8):(a+256*b)/2^r%2=a/2^r%2:=by
  rcases (by omega:r=0∨r=1∨r=2∨r=3∨r=4∨r=5∨r=6∨r=7) with rfl | rfl | rfl | rfl | rfl | rfl | rfl | rfl
  all_goals
    simp only [Int.reducePow]
    omega
theorem QgR (a b:Int) (ha:0≤a∧a≤255) (r:Nat) (hr:r<8):(a+256*b)/2^(r+8)%2=b/2^r%2:=by
  rcases (by omega:r=0∨r=1∨r=2∨r=3∨r=4∨r=5∨r=6∨r=7) with rfl | rfl | rfl | rfl | rfl | rfl | rfl | rfl
  all_goals
    simp only [Int.reducePow,Nat.reduceAdd]
    omega
theorem Qpi (es : List Int) (hb:Qaj es) (i:Nat) (hi:i<256):lbit (leAt es 0 32) i=QcV es i:=by
  unfold lbit QcV
  rw [Qpf es hb (i/16) (by omega)]
  unfold QbE
  rcases Nat.lt_or_ge (i%16) 8 with h | h
  · rw [show i/8=2*(i/16) by omega,show i%8=i%16 by omega]
    exact Qh9 _ _ (hb.nth _) _ h
  · obtain ⟨s,hs⟩:∃ s,i%16=s+8:=⟨i%16-8,by omega⟩
    rw [show i/8=2*(i/16)+1 by omega,show i%8=s by omega,hs]
    exact QgR _ _ (hb.nth _) _ (by omega)
end Go.Proofs.YtdoadngmgmdlbaaDoor.Field
end
section
namespace Go.Proofs.YtdoadngmgmdlbaaDoor.Field
open Go Go.RowKit Go.Shelf
open Rely
attribute [local go_sem] Oper.semAt_some
def Same (kb : Nat) (A B:World):Prop:=B.heap[kb]? = A.heap[kb]?
theorem Same.refl (kb : Nat) (A:World):Same kb A A:=rfl
theorem Same.trans' {kb : Nat} {A B C:World} (h:Same kb A B) (k:Same kb B C):Same kb A C:=Eq.trans k h
theorem Qhu {kb : Nat} {w:World} (hk:kb<w.heap.size) (W:World) (l:Nat) (o o':Obj) (hl:w.heap.size≤l) (h:W.heap[l]? = some o) (_:o.isCells=false) (_:o.isWalk=false):Same kb W (W.putObj l o') :=
  World.putObj_heap_other (by omega)
end Go.Proofs.YtdoadngmgmdlbaaDoor.Field
end
section
namespace Go.Proofs.YtdoadngmgmdlbaaDoor.Field
open Go Go.RowKit
open Rely
def QaQ (a : Int):Int:=Qb0 a (QbL (expo 254 15))
def Qbn : Int:=Qb0 2 (QbL (expo 251 31))
theorem QdE (a : Int):isN (QaQ a):=Qdq _ _
theorem Qf7 : isN Qbn:=Qdq _ _
theorem Qk0 : isN 2:=by unfold isN p; decide
theorem Qew : isN 0:=by unfold isN p; decide
def QaZ (r : Int):Int:=if r%2=1 then (0-r)%p else r
theorem Qgs (r : Int) (h:isN r):isN (QaZ r):=by
  unfold QaZ
  split
  · exact isN_mod _
  · exact h
theorem QeX (r : Int) (hr:isN r) (h:r%2=1):QaZ r=p-r:=by
  unfold QaZ
  rw [if_pos h]
  unfold isN p at *
  omega
def Qmy (a r:Int):Int:=if r*r%p=a then QaZ r else 0
def Qdb (a : Int):Int:=if QaQ a*QaQ a%p=a then QaZ (QaQ a) else Qmy a (QaQ a*Qbn%p)
def Qb3 (a : Int):Bool:=decide (QaQ a*QaQ a%p=a) || decide (QaQ a*Qbn%p*(QaQ a*Qbn%p)%p=a)
theorem QkE (a : Int):isN (Qdb a):=by
  unfold Qdb Qmy
  split
  · exact Qgs _ (QdE a)
  · split
    · exact Qgs _ (isN_mod _)
    · exact Qew
theorem QkD : lbits 7237005577332262213973186563042994240829374041602535252466099000494570602494=QbL (expo 254 15):=by decide +kernel
theorem QjR : lbits 14474011154664524427946373126085988481658748083205070504932198000989141204987=QbL (expo 251 31):=by decide +kernel
theorem Qj7 : cnt (QbL (expo 254 15))=7237005577332262213973186563042994240829374041602535252466099000494570602494:=by decide +kernel
theorem QlL : cnt (QbL (expo 251 31))=14474011154664524427946373126085988481658748083205070504932198000989141204987:=by decide +kernel
end Go.Proofs.YtdoadngmgmdlbaaDoor.Field
end
section
namespace Go.Proofs.YtdoadngmgmdlbaaDoor.Field
open Go Go.RowKit
open Rely
theorem Qdx (a : Int):∀ n:Nat,(a%p)^n%p=a^n%p
  | 0=>by rw [Int.pow_zero,Int.pow_zero]
  | n+1=>by
    rw [Int.pow_succ,Int.pow_succ,modR,Int.mul_emod,Qdx a n,←Int.mul_emod]
theorem euclid (u v:Nat) (h:57896044618658097711785492504343953926634992332820282019728792003956564819949 ∣ u*v) :
    57896044618658097711785492504343953926634992332820282019728792003956564819949 ∣ u∨57896044618658097711785492504343953926634992332820282019728792003956564819949 ∣ v:=by
  have hp:=Prime.p25519.1
  generalize 57896044618658097711785492504343953926634992332820282019728792003956564819949=P at *
  rcases hp.2 (Nat.gcd P u) (Nat.gcd_dvd_left P u) with hg | hg
  · right
    have hc:Nat.Coprime P u:=hg
    exact hc.dvd_of_dvd_mul_left h
  · left
    rw [←hg]
    exact Nat.gcd_dvd_right P u
theorem Qmn (r x:Int) (hr:isN r) (hx:isN x) (h:r*r%p=x*x%p):r=x∨r=(0-x)%p:=by
  obtain ⟨R,rfl⟩:=Int.eq_ofNat_of_zero_le hr.1
  obtain ⟨X,rfl⟩:=Int.eq_ofNat_of_zero_le hx.1
  have hR:=hr.2
  have hX:=hx.2
  have h1:(p:Int) ∣ (R:Int)*R-(X:Int)*X:=Int.dvd_of_emod_eq_zero (by rw [Int.sub_emod,h,Int.sub_self]; rfl)
  have h2:(p:Int) ∣ ((R:Int)+p-X)*((R:Int)+X):=by
    have e:((R:Int)+p-X)*((R:Int)+X)=((R:Int)*R-(X:Int)*X)+p*((R:Int)+X):=by grind
    rw [e]
    exact Int.dvd_add h1 (Int.dvd_mul_right _ _)
  have h3:57896044618658097711785492504343953926634992332820282019728792003956564819949 ∣ (R+57896044618658097711785492504343953926634992332820282019728792003956564819949-X)*(R+X):=by
    unfold p at h2 hX
    rw [←Int.natCast_dvd_natCast]
    have e:(((R+57896044618658097711785492504343953926634992332820282019728792003956564819949-X)*(R+X):Nat):Int)=((R:Int)+57896044618658097711785492504343953926634992332820282019728792003956564819949-X)*((R:Int)+X):=by
      rw [Int.natCast_mul,Int.natCast_sub (by omega)]
      rfl
    rw [e]
    exact h2
  unfold p at *
  rcases euclid _ _ h3 with ⟨c,hc⟩ | ⟨c,hc⟩
  · left
    omega
  · right
    omega
theorem QpQ (E h k:Nat) (hE:4*E=h+2) (hh:2*h=k) (hk:k=57896044618658097711785492504343953926634992332820282019728792003956564819949-1) (x:Int) (hx:isN x) (h0:x≠0) :
    (x*x%p)^E%p*((x*x%p)^E%p)%p=x*x%p*(x^h%p)%p∧x^h%p*(x^h%p)%p=1:=by
  constructor
  · rw [Qdx,←Int.mul_emod,←Int.pow_add,←Int.mul_emod]
    have e:(x*x)^(E+E)=x*x*x^h:=by
      have e1:x*x=x^2:=by rw [Int.pow_succ,Int.pow_succ,Int.pow_zero,Int.one_mul]
      rw [e1,←Int.pow_mul,←Int.pow_add]
      congr 1
      omega
    rw [e]
  · rw [←Int.mul_emod,←Int.pow_add,show h+h=k by omega]
    exact QdY x hx h0 k hk
theorem Qo8 : Prime.pm 57896044618658097711785492504343953926634992332820282019728792003956564819949 256 2 28948022309329048855892746252171976963317496166410141009864396001978282409974=57896044618658097711785492504343953926634992332820282019728792003956564819948:=by decide +kernel
theorem Qml (m : Nat) (h:m=28948022309329048855892746252171976963317496166410141009864396001978282409974):(2:Int)^m%p=p-1:=by
  have h1:=Prime.pm_eq 57896044618658097711785492504343953926634992332820282019728792003956564819949 256 2 m (by rw [h]; decide)
  have h2:Prime.pm 57896044618658097711785492504343953926634992332820282019728792003956564819949 256 2 m=57896044618658097711785492504343953926634992332820282019728792003956564819948:=by rw [h]; exact Qo8
  rw [h2] at h1
  have h3:=QdM 2 m 57896044618658097711785492504343953926634992332820282019728792003956564819949
  rw [←h1] at h3
  exact h3
theorem QgF : Qbn*Qbn%p=p-1:=by
  have hc:=QlL
  unfold Qbn
  rw [Qja]
  generalize cnt (QbL (expo 251 31))=K at *
  rw [←Int.mul_emod,←Int.pow_add]
  exact Qml (K+K) (by omega)
theorem QfH (x : Int) (hx:isN x) (h:x≠0):(0-x)%p=p-x:=by
  unfold isN p at *
  omega
theorem Qkm (x : Int) (hx:isN x):QaZ ((0-x)%p)=QaZ x:=by
  by_cases h:x=0
  · subst h; rfl
  · have hpar:(p-x)%2=1-x%2:=by unfold p; omega
    have hN:isN (p-x):=by unfold isN at *; omega
    have h0:p-x≠0:=by unfold isN at hx; omega
    rw [QfH x hx h]
    unfold QaZ
    by_cases h2:x%2=1
    · rw [if_neg (by omega),if_pos h2,QfH x hx h]
    · rw [if_pos (by omega),if_neg h2,QfH (p-x) hN h0]
      omega
theorem QfP (a r:Int) (h1:QaQ a=r) (h2:r*r%p=a):Qb3 a=true∧Qdb a=QaZ r:=by
  unfold Qb3 Qdb
  rw [h1,if_pos h2,decide_eq_true h2]
  exact ⟨rfl,rfl⟩
theorem QhR (a r:Int) (h1:QaQ a*Qbn%p=r) (h0:QaQ a*QaQ a%p≠a) (h2:r*r%p=a):Qb3 a=true∧Qdb a=QaZ r:=by
  unfold Qb3 Qdb Qmy
  rw [h1,if_neg h0,if_pos h2,decide_eq_true h2]
  simp
theorem QkC : Qb3 0=true∧Qdb 0=QaZ 0:=by
  refine QfP 0 0 ?_ (by decide)
  have hc:=Qj7
  unfold QaQ
  rw [Qja]
  generalize cnt (QbL (expo 254 15))=E at *
  rw [Int.zero_pow (by omega)]
  rfl
theorem Qnp (a b:Int):a*b*(a*b)=a*a*(b*b):=by grind
theorem QpP (a i:Int):a*i%p*(a*i%p)%p=(a*a%p)*(i*i%p)%p:=by rw [←Int.mul_emod,←Int.mul_emod,Qnp]
theorem Qq1 (a : Int) (ha:isN a):a*(p-1)%p*(p-1)%p=a:=by
  rw [modL,Int.mul_assoc,←modR,show (p-1)*(p-1)%p=1 by decide,QfN a ha]
theorem Qq2 (a : Int) (ha:isN a) (h:a≠0):a*(p-1)%p≠a:=by
  have e:a*(p-1)=(0-a)+p*a:=by grind
  rw [e,Int.add_mul_emod_self_left,QfH a ha h]
  unfold p
  omega
theorem Qnm (E : Nat) (hc:E=7237005577332262213973186563042994240829374041602535252466099000494570602494):∃ h:Nat,4*E=h+2∧2*h=57896044618658097711785492504343953926634992332820282019728792003956564819949-1 :=
  ⟨28948022309329048855892746252171976963317496166410141009864396001978282409974,by omega,by decide⟩
theorem QqZ (x : Int) (hx:isN x) (h:x≠0):x*x%p≠0:=fun e=>by
  rcases Qmn x 0 hx Qew (by rw [e]; decide) with h1 | h1
  · exact h h1
  · exact h (h1.trans (by decide))
theorem Qk9 (x : Int) (hx:isN x) (r:Int) (hr:isN r) (e:r*r%p=x*x%p):QaZ r=QaZ x:=by
  rcases Qmn r x hr hx e with h1 | h1
  · rw [h1]
  · rw [h1]; exact Qkm x hx
theorem Qmx (x : Int) (hx:isN x) (h0:x≠0):Qb3 (x*x%p)=true∧Qdb (x*x%p)=QaZ x:=by
  obtain ⟨h,hE,hh⟩:=Qnm (cnt (QbL (expo 254 15))) Qj7
  have hA:QaQ (x*x%p)=(x*x%p)^cnt (QbL (expo 254 15))%p:=by unfold QaQ; rw [Qja]
  generalize cnt (QbL (expo 254 15))=E at *
  obtain ⟨q1,q2⟩:=QpQ E h (2*h) hE rfl hh x hx h0
  rw [←hA] at q1
  have hsN:isN (x^h%p):=isN_mod _
  have ha:=QqZ x hx h0
  have haN:isN (x*x%p):=isN_mod _
  have hrN:=QdE (x*x%p)
  have back:=Qk9 x hx
  clear hE hh hA
  generalize x^h%p=s at *
  generalize x*x%p=a at *
  have q2':s*s%p=1*1%p:=by rw [q2]; decide
  rcases Qmn s 1 hsN Qlc q2' with h1 | h1
  · have q3:QaQ a*QaQ a%p=a:=by rw [q1,h1,QfN a haN]
    have:=QfP _ _ rfl q3
    rw [back _ hrN q3] at this
    exact this
  · have h2:s=p-1:=by rw [h1]; decide
    have q3:QaQ a*QaQ a%p=a*(p-1)%p:=by rw [q1,h2]
    have q4:QaQ a*QaQ a%p≠a:=by rw [q3]; exact Qq2 a haN ha
    have q5:QaQ a*Qbn%p*(QaQ a*Qbn%p)%p=a:=by rw [QpP,q3,QgF,Qq1 a haN]
    have:=QhR _ _ rfl q4 q5
    rw [back _ (isN_mod _) q5] at this
    exact this
theorem Qiw (x : Int) (hx:isN x):Qb3 (x*x%p)=true∧Qdb (x*x%p)=QaZ x:=by
  by_cases h0:x=0
  · subst h0
    rw [show (0:Int)*0%p=0 by decide]
    exact QkC
  · exact Qmx x hx h0
end Go.Proofs.YtdoadngmgmdlbaaDoor.Field
end
section
namespace Go.Proofs.YtdoadngmgmdlbaaDoor.Field
open Go Go.RowKit
open Rely
theorem Qbg {Pr : Program} {fn:Func} {q t:Tmp} {ty:TypeId} (h:fn.results=#[.cell q ty,.tmp t]) (tmps:Array Value) (w:World) (g:Nat) (tt:TypeId) (cs:Array Value) (fr:Nat×Nat) (d:TypeDesc)
    (hp:tmps.getD q undef=.pointer (some ⟨g,0,none⟩)) (v:Value) (ht:tmps.getD t undef=v) (hg:w.heap[g]? = some (.cells cs tt fr))
    (hu:Pr.underlying ty=some d) (hd:(match d with | .struct _ | .array _ _=>true | _=>false)=true) (hi:(Pr.info? ty).map (·.size)=some cs.size) :
    (results fn tmps).run Pr w=.ok (.tuple #[.agg cs,v]) w:=by
  have hp':tmps[q]?.getD undef=.pointer (some ⟨g,0,none⟩):=by simpa using hp
  have ht':tmps[t]?.getD undef=v:=by simpa using ht
  simp [results,h,hp',ht',asAddr,run_loadVar_row w g tt ty cs fr d hg hu hd hi]
set_option maxRecDepth 100000 in
theorem root (a : Int) (ha:isN a) (w:World):Calls Tryd.prog 71 #[num a] w (Ret w (.tuple #[num (Qdb a),.bool (Qb3 a)])):=by
  have HE1:Hid (∀ w,Calls Tryd.prog 93 #[.int .u8 254,.int .u8 15] w (Ret w (.agg (ints .u8 (expo 254 15))))):=Lib.hid (exponent 254 15)
  have HB1:Hid (∀ w,Calls Tryd.prog 46 #[.agg (ints .u8 (expo 254 15))] w (Qgc w (QeL (expo 254 15)))):=Lib.hid (QfW _)
  have HP1:Hid (∀ v w,QeL (expo 254 15) v w→Calls Tryd.prog 92 #[num a,v] w (Ret w (num (QaQ a)))):=Lib.hid fun v w hv=>power a ha (expo 254 15) (QeG _ _) (QeW _ _ (by decide) (by decide)) v w hv
  have HE2:Hid (∀ w,Calls Tryd.prog 93 #[.int .u8 251,.int .u8 31] w (Ret w (.agg (ints .u8 (expo 251 31))))):=Lib.hid (exponent 251 31)
  have HB2:Hid (∀ w,Calls Tryd.prog 46 #[.agg (ints .u8 (expo 251 31))] w (Qgc w (QeL (expo 251 31)))):=Lib.hid (QfW _)
  have HP2:Hid (∀ v w,QeL (expo 251 31) v w→Calls Tryd.prog 92 #[num 2,v] w (Ret w (num Qbn))):=Lib.hid fun v w hv=>power 2 Qk0 (expo 251 31) (QeG _ _) (QeW _ _ (by decide) (by decide)) v w hv
  have HS2:Hid (∀ w,Calls Tryd.prog 67 #[.int .i64 2] w (Ret w (num 2))):=Lib.hid fun w=>by have:=Qf3 2 (by decide) w; rw [show (2:Int)%p=2 by decide] at this; exact this
  have i_ra:=QdE a
  have i_rb:isN (QaQ a*Qbn%p):=isN_mod _
  have HM0:Hid (∀ w,Calls Tryd.prog 66 #[num (QaQ a),num (QaQ a)] w (Ret w (num (QaQ a*QaQ a%p)))):=Lib.hid (mul _ _ i_ra i_ra)
  have HMI:Hid (∀ w,Calls Tryd.prog 66 #[num (QaQ a),num Qbn] w (Ret w (num (QaQ a*Qbn%p)))):=Lib.hid (mul _ _ i_ra Qf7)
  have HM1:Hid (∀ w,Calls Tryd.prog 66 #[num (QaQ a*Qbn%p),num (QaQ a*Qbn%p)] w (Ret w (num (QaQ a*Qbn%p*(QaQ a*Qbn%p)%p)))):=Lib.hid (mul _ _ i_rb i_rb)
  have i_s0:isN (QaQ a*QaQ a%p):=isN_mod _
  have i_s1:isN (QaQ a*Qbn%p*(QaQ a*Qbn%p)%p):=isN_mod _
  have FN:Hid (Qdb a=(if QaQ a*QaQ a%p=a then QaZ (QaQ a) else if QaQ a*Qbn%p*(QaQ a*Qbn%p)%p=a then QaZ (QaQ a*Qbn%p) else 0)):=Lib.hid rfl
  have FB:Hid (Qb3 a=(decide (QaQ a*QaQ a%p=a) || decide (QaQ a*Qbn%p*(QaQ a*Qbn%p)%p=a))):=Lib.hid rfl
  generalize hs0:QaQ a*QaQ a%p=s0 at *
  generalize hs1:QaQ a*Qbn%p*(QaQ a*Qbn%p)%p=s1 at *
  clear hs0 hs1
  generalize QaQ a*Qbn%p=rb at *
  generalize QaQ a=ra at *
  generalize Qbn=ri at *
  generalize expo 254 15=x1 at *
  generalize expo 251 31=x2 at *
  rw [show num a=.agg (numA a) from rfl]
  go_enter Tryd.func71,Tryd.ntmps71
  go_wp2_with fail
  generalize hW:(w.alloc _).alloc _=W0
  have hA:W0.heap[w.heap.size]? = some (.cells (numA a) 49):=by rw [←hW]; exact Qec _ _ _
  have hC:∃ b:Array Value,b.size=4∧W0.heap[w.heap.size+1]? = some (.cells b 49):=by rw [←hW]; exact ⟨_,rfl,Qeb _ _ _⟩
  obtain ⟨b,hbs,hC⟩:=hC
  have he:Ext w W0:=by rw [←hW]; exact Ext.trans (QaG _ _) (QaG _ _)
  clear hW
  have hsz:=he.size
  have hlC:=QaB hC
  have HA:Hid (∀ W,Ext W0.drew W→W.heap[w.heap.size]? = some (.cells (numA a) 49)):=Lib.hid fun W hR=>Qaa (Qaa hA (Qae _)) hR
  refine Qa1 Ext 5 34 [⟨none,[(1,none)]⟩,⟨none,[]⟩,⟨none,[(6,some 1)]⟩,⟨none,[(5,some 0),(7,some 2)]⟩,⟨none,[]⟩] kj kj rfl Ext.refl Ext.trans (fun F r0 hr hF=>?_)
  have f1:r0 1=.pointer (some ⟨w.heap.size,0,none⟩):=by rw [hr]; rfl
  clear hr
  simp only [List.take_succ_cons,List.take_zero]
  refine Qao (num a) (fun ρ W hR hh=>?_) ?_
  · clear hF
    exact QbF (.tmp _) rfl _ _ (Eq.trans hh.1 f1) (HA.out W hR)
  refine Qao (.agg (ints .u8 x1)) (fun ρ W hR hh=>?_) ?_
  · clear hF
    simp only [guarded,QaM]
    go_simp
    exact ⟨Ext.refl _,(HE1.out _).mono fun _ _ h=>h.const⟩
  refine QdB (QeL x1) (QdN x1) (fun ρ W hR hh=>?_) ?_
  · clear hF
    have h6:ρ 6=.agg (ints .u8 x1):=hh.1
    simp only [guarded,QaM]
    go_simp
    exact ⟨Ext.refl _,(HB1.out _).mono fun _ _ h=>h.fact⟩
  refine Qao (num ra) (fun ρ W hR hh=>?_) ?_
  · clear hF
    have h5:ρ 5=num a:=hh.1
    have h7:QeL x1 (ρ 7) W:=hh.2.1
    simp only [guarded,QaM]
    go_simp
    exact ⟨Ext.refl _,(HP1.out _ _ h7).mono fun _ _ h=>h.const⟩
  refine QdB (Qmd 49 4 W0.heap.size) (QeE _ _ _) (fun ρ W hR hh=>?_) ?_
  · have hsz:W0.heap.size≤W.heap.size:=hR.size
    simp only [guarded,QaM]
    go_simp
    exact ⟨QaG _ _,_,rfl,by omega,by simp,_,rfl,heap_alloc_new _ _⟩
  simp only [List.cons_append,List.nil_append]
  refine hF.out fun W1 hR1=>?_
  simp only [List.take_succ_cons,List.take_zero,List.drop_succ_cons,List.drop_zero,fin,forall_eq,Act.put,List.setIfInBounds_toArray,List.set_cons_zero,List.set_cons_succ]
  rintro vb-vg ⟨gr,rfl,lg,ug,cg,sg,kg⟩
  clear hF f1
  refine wpList_store_row rfl 49 _ _ rfl gr (numA ra) rfl rfl 49 _ kg QaU sg (Qb9 _) ?_
  have hE1:=Ext.trans (Qae W0) hR1
  have hr1:=setRow_heap _ _ _ (numA ra) _ _ kg
  have hA1:=(setRow_other W1 gr w.heap.size (numA ra) (by omega)).trans (Qaa hA hE1)
  have hs1:=(setRow_other W1 gr (w.heap.size+1) (numA ra) (by omega)).trans (Qaa hC hE1)
  have he1:=QaA (Ext.trans he hE1) (show w.heap.size≤gr by omega) (numA ra)
  have hgr:w.heap.size+1<gr:=by omega
  clear kg hR1 hE1 HA hA hC he lg ug sg hsz hlC HE1 HB1 HP1
  generalize W1.setRow gr (numA ra)=V1 at *
  have HA:Hid (∀ W,Ext V1.drew W→W.heap[w.heap.size]? = some (.cells (numA a) 49)):=Lib.hid fun W hR=>Qaa (Qaa hA1 (Qae _)) hR
  have HR:Hid (∀ W,Ext V1.drew W→W.heap[gr]? = some (.cells (numA ra) 49)):=Lib.hid fun W hR=>Qaa (Qaa hr1 (Qae _)) hR
  by_cases hz:s0=a
  · have HQ:Hid (∀ w,Calls Tryd.prog 94 #[num s0,num a] w (Ret w (.bool true))):=Lib.hid (QnO s0 a hz i_s0)
    have HM:=HM0
    have FIN:Hid (Qdb a=QaZ ra∧Qb3 a=true):=Lib.hid ⟨by rw [FN.out,if_pos hz],by rw [FB.out,decide_eq_true hz]; rfl⟩
    clear hz FN FB HM1 HMI HP2 HE2 HB2 HS2
    go_wp2
    refine Qa1 Ext 5 34 [⟨none,[(4,none)]⟩,⟨none,[(4,none)]⟩,⟨none,[(9,some 0),(10,some 1)]⟩,⟨none,[(1,none)]⟩,⟨none,[(11,some 2),(12,some 3)]⟩] kj kj rfl Ext.refl Ext.trans (fun F r0 hr hF=>?_)
    have f4:r0 4=.pointer (some ⟨gr,0,none⟩):=by rw [hr]; rfl
    have f1:r0 1=.pointer (some ⟨w.heap.size,0,none⟩):=by rw [hr]; rfl
    clear hr
    simp only [List.take_succ_cons,List.take_zero]
    refine Qao (num ra) (fun ρ W hR hh=>?_) ?_
    · clear hF
      have h4:ρ 4=.pointer (some ⟨gr,0,none⟩):=Eq.trans hh.1 f4
      exact QbF (.tmp _) rfl _ _  h4 (HR.out W hR)
    refine Qao (num ra) (fun ρ W hR hh=>?_) ?_
    · clear hF
      have h4:ρ 4=.pointer (some ⟨gr,0,none⟩):=Eq.trans hh.1 f4
      exact QbF (.tmp _) rfl _ _  h4 (HR.out W hR)
    refine Qao (num s0) (fun ρ W hR hh=>?_) ?_
    · clear hF
      have h9:ρ 9=num ra:=hh.1
      have h10:ρ 10=num ra:=hh.2.1
      simp only [guarded,QaM]
      go_simp
      exact ⟨Ext.refl _,(HM.out _).mono fun _ _ h=>h.const⟩
    refine Qao (num a) (fun ρ W hR hh=>?_) ?_
    · clear hF
      have h1:ρ 1=.pointer (some ⟨w.heap.size,0,none⟩):=Eq.trans hh.1 f1
      exact QbF (.tmp _) rfl _ _  h1 (HA.out W hR)
    refine Qao (.bool true) (fun ρ W hR hh=>?_) ?_
    · clear hF
      have h11:ρ 11=num s0:=hh.1
      have h12:ρ 12=num a:=hh.2.1
      simp only [guarded,QaM]
      go_simp
      exact ⟨Ext.refl _,(HQ.out _).mono fun _ _ h=>h.const⟩
    simp only [List.cons_append,List.nil_append]
    refine hF.out fun W2 hR2=>?_
    simp only [List.take_succ_cons,List.take_zero,List.drop_succ_cons,List.drop_zero,fin,forall_eq,Act.put,List.setIfInBounds_toArray,List.set_cons_zero,List.set_cons_succ]
    clear hF
    have hr2:=Qaa (Qaa hr1 (Qae _)) hR2
    have hA2:=Qaa (Qaa hA1 (Qae _)) hR2
    have hs2:=Qaa (Qaa hs1 (Qae _)) hR2
    have he2:=Ext.trans (Ext.trans he1 (Qae _)) hR2
    clear HA HR hR2 hr1 hA1 hs1 he1
    have HA:Hid (∀ W,Ext W2.drew W→W.heap[w.heap.size]? = some (.cells (numA a) 49)):=Lib.hid fun W hR=>Qaa (Qaa hA2 (Qae _)) hR
    have HR:Hid (∀ W,Ext W2.drew W→W.heap[gr]? = some (.cells (numA ra) 49)):=Lib.hid fun W hR=>Qaa (Qaa hr2 (Qae _)) hR
    go_wp2
    refine Qa1 Ext 5 34 [⟨none,[(4,none)]⟩,⟨none,[(4,none)]⟩,⟨none,[(21,some 0),(22,some 1)]⟩,⟨none,[(1,none)]⟩,⟨none,[(23,some 2),(24,some 3)]⟩] kj kj rfl Ext.refl Ext.trans (fun F r0 hr hF=>?_)
    have f4:r0 4=.pointer (some ⟨gr,0,none⟩):=by rw [hr]; rfl
    have f1:r0 1=.pointer (some ⟨w.heap.size,0,none⟩):=by rw [hr]; rfl
    clear hr
    simp only [List.take_succ_cons,List.take_zero]
    refine Qao (num ra) (fun ρ W hR hh=>?_) ?_
    · clear hF
      have h4:ρ 4=.pointer (some ⟨gr,0,none⟩):=Eq.trans hh.1 f4
      exact QbF (.tmp _) rfl _ _  h4 (HR.out W hR)
    refine Qao (num ra) (fun ρ W hR hh=>?_) ?_
    · clear hF
      have h4:ρ 4=.pointer (some ⟨gr,0,none⟩):=Eq.trans hh.1 f4
      exact QbF (.tmp _) rfl _ _  h4 (HR.out W hR)
    refine Qao (num s0) (fun ρ W hR hh=>?_) ?_
    · clear hF
      have h21:ρ 21=num ra:=hh.1
      have h22:ρ 22=num ra:=hh.2.1
      simp only [guarded,QaM]
      go_simp
      exact ⟨Ext.refl _,(HM.out _).mono fun _ _ h=>h.const⟩
    refine Qao (num a) (fun ρ W hR hh=>?_) ?_
    · clear hF
      have h1:ρ 1=.pointer (some ⟨w.heap.size,0,none⟩):=Eq.trans hh.1 f1
      exact QbF (.tmp _) rfl _ _  h1 (HA.out W hR)
    refine Qao (.bool true) (fun ρ W hR hh=>?_) ?_
    · clear hF
      have h23:ρ 23=num s0:=hh.1
      have h24:ρ 24=num a:=hh.2.1
      simp only [guarded,QaM]
      go_simp
      exact ⟨Ext.refl _,(HQ.out _).mono fun _ _ h=>h.const⟩
    simp only [List.cons_append,List.nil_append]
    refine hF.out fun W4 hR4=>?_
    simp only [List.take_succ_cons,List.take_zero,List.drop_succ_cons,List.drop_zero,fin,forall_eq,Act.put,List.setIfInBounds_toArray,List.set_cons_zero,List.set_cons_succ]
    clear hF
    have hr4:=Qaa (Qaa hr2 (Qae _)) hR4
    have hA4:=Qaa (Qaa hA2 (Qae _)) hR4
    have hs4:=Qaa (Qaa hs2 (Qae _)) hR4
    have he4:=Ext.trans (Ext.trans he2 (Qae _)) hR4
    clear HA HR hR4 hr2 hA2 hs2 he2
    by_cases ho:ra%2=1
    · have HO:Hid (∀ w,Calls Tryd.prog 51 #[.agg (numA ra)] w (Ret w (.bool true))):=Lib.hid fun w=>by
        have:=odd ra i_ra w
        rw [ho] at this
        exact this
      have HN:Hid (∀ w,Calls Tryd.prog 69 #[.agg #[.int .u64 0,.int .u64 0,.int .u64 0,.int .u64 0],.agg (numA ra)] w (Ret w (.agg (numA (QaZ ra))))):=Lib.hid fun w=>by
        have:=sub 0 ra Qew i_ra w
        rw [show (0-ra)%p=QaZ ra by unfold QaZ; rw [if_pos ho]] at this
        exact this
      generalize hev:QaZ ra=ev at *
      clear ho
      go_wp2_with first
        | (go_at_call 51
           (with_reducible refine (HO.out _).mono ?_)
           rintro e w6 ⟨rfl,hw6⟩
           clear HO
           have hr6:=Qaa hr4 hw6
           have hs6:=Qaa hs4 hw6
           have he6:=Ext.trans he4 hw6
           clear hr4 hs4 he4 hw6)
        | (go_at_call 69
           (with_reducible refine (HN.out _).mono ?_)
           rintro e w7 ⟨rfl,hw7⟩
           clear HN
           have hr7:=Qaa hr6 hw7
           have hs7:=Qaa hs6 hw7
           have he7:=Ext.trans he6 hw7
           clear hr6 hs6 he6 hw7)
        | (with_reducible show wpList _ _ _ ((⟨_,.load 49 _,_,_,_,_⟩:Oper)::_) _ _
           refine wpList_load_row rfl 49 _ rfl gr rfl 49 _ (0,0) _ hr4 Tryd.underlying49 rfl QaU ?_)
        | (with_reducible show wpList _ _ _ ((⟨_,.load 49 _,_,_,_,_⟩:Oper)::_) _ _
           refine wpList_load_row rfl 49 _ rfl gr rfl 49 _ (0,0) _ hr6 Tryd.underlying49 rfl QaU ?_)
        | (with_reducible show wpList _ _ _ ((⟨_,.load 49 _,_,_,_,_⟩:Oper)::_) _ _
           refine wpList_load_row rfl 49 _ rfl gr rfl 49 _ (0,0) _ hr8 Tryd.underlying49 rfl QaU ?_)
        | (with_reducible show wpList _ _ _ ((⟨_,.store 49 _ _,_,_,_,_⟩:Oper)::_) _ _
           refine wpList_store_row rfl 49 _ _ rfl gr (numA ev) rfl rfl 49 _ hr7 QaU rfl (Qb9 _) ?_
           have hr8:=setRow_heap _ _ _ (numA ev) _ _ hr7
           have hs8:=(setRow_other w7 gr (w.heap.size+1) (numA ev) (by omega)).trans hs7
           have he8:=QaA he7 (show w.heap.size≤gr by omega) (numA ev)
           clear hr7)
        | (with_reducible show wpList _ _ _ ((⟨_,.store 49 _ _,_,_,_,_⟩:Oper)::_) _ _
           refine wpList_store_row rfl 49 _ _ rfl (w.heap.size+1) (numA ev) rfl rfl 49 _ hs8 QaU hbs (Qb9 _) ?_)
      exact bodyPost_ret (Qbg rfl _ _ (w.heap.size+1) 49 _ (0,0) _ rfl _ rfl (setRow_heap _ _ _ _ _ _ hs8) Tryd.underlying49 rfl QaU) rfl ⟨by rw [FIN.out.1,FIN.out.2]; rfl,QaA he8 (by omega) _⟩
    · have HO:Hid (∀ w,Calls Tryd.prog 51 #[.agg (numA ra)] w (Ret w (.bool false))):=Lib.hid fun w=>by
        have:=odd ra i_ra w
        rw [show (ra%2==1)=false by simpa using ho] at this
        exact this
      have hev:QaZ ra=ra:=by unfold QaZ; rw [if_neg ho]
      clear ho
      have HEV:=Lib.hid hev
      clear hev
      go_wp2_with first
        | (go_at_call 51
           (with_reducible refine (HO.out _).mono ?_)
           rintro e w6 ⟨rfl,hw6⟩
           clear HO
           have hr6:=Qaa hr4 hw6
           have hs6:=Qaa hs4 hw6
           have he6:=Ext.trans he4 hw6
           clear hr4 hs4 he4 hw6)
        | (with_reducible show wpList _ _ _ ((⟨_,.load 49 _,_,_,_,_⟩:Oper)::_) _ _
           refine wpList_load_row rfl 49 _ rfl gr rfl 49 _ (0,0) _ hr4 Tryd.underlying49 rfl QaU ?_)
        | (with_reducible show wpList _ _ _ ((⟨_,.load 49 _,_,_,_,_⟩:Oper)::_) _ _
           refine wpList_load_row rfl 49 _ rfl gr rfl 49 _ (0,0) _ hr6 Tryd.underlying49 rfl QaU ?_)
        | (with_reducible show wpList _ _ _ ((⟨_,.store 49 _ _,_,_,_,_⟩:Oper)::_) _ _
           refine wpList_store_row rfl 49 _ _ rfl (w.heap.size+1) (numA ra) rfl rfl 49 _ hs6 QaU hbs (Qb9 _) ?_)
      exact bodyPost_ret (Qbg rfl _ _ (w.heap.size+1) 49 _ (0,0) _ rfl _ rfl (setRow_heap _ _ _ _ _ _ hs6) Tryd.underlying49 rfl QaU) rfl ⟨by rw [FIN.out.1,FIN.out.2,HEV.out]; rfl,QaA he6 (by omega) _⟩
  · have HQ0:Hid (∀ w,Calls Tryd.prog 94 #[num s0,num a] w (Ret w (.bool false))):=Lib.hid (Qji s0 a hz i_s0 ha)
    have HZ:=Lib.hid hz
    clear hz
    have HQ:=HQ0
    have HM:=HM0
    go_wp2
    refine Qa1 Ext 5 34 [⟨none,[(4,none)]⟩,⟨none,[(4,none)]⟩,⟨none,[(9,some 0),(10,some 1)]⟩,⟨none,[(1,none)]⟩,⟨none,[(11,some 2),(12,some 3)]⟩] kj kj rfl Ext.refl Ext.trans (fun F r0 hr hF=>?_)
    have f4:r0 4=.pointer (some ⟨gr,0,none⟩):=by rw [hr]; rfl
    have f1:r0 1=.pointer (some ⟨w.heap.size,0,none⟩):=by rw [hr]; rfl
    clear hr
    simp only [List.take_succ_cons,List.take_zero]
    refine Qao (num ra) (fun ρ W hR hh=>?_) ?_
    · clear hF
      have h4:ρ 4=.pointer (some ⟨gr,0,none⟩):=Eq.trans hh.1 f4
      exact QbF (.tmp _) rfl _ _  h4 (HR.out W hR)
    refine Qao (num ra) (fun ρ W hR hh=>?_) ?_
    · clear hF
      have h4:ρ 4=.pointer (some ⟨gr,0,none⟩):=Eq.trans hh.1 f4
      exact QbF (.tmp _) rfl _ _  h4 (HR.out W hR)
    refine Qao (num s0) (fun ρ W hR hh=>?_) ?_
    · clear hF
      have h9:ρ 9=num ra:=hh.1
      have h10:ρ 10=num ra:=hh.2.1
      simp only [guarded,QaM]
      go_simp
      exact ⟨Ext.refl _,(HM.out _).mono fun _ _ h=>h.const⟩
    refine Qao (num a) (fun ρ W hR hh=>?_) ?_
    · clear hF
      have h1:ρ 1=.pointer (some ⟨w.heap.size,0,none⟩):=Eq.trans hh.1 f1
      exact QbF (.tmp _) rfl _ _  h1 (HA.out W hR)
    refine Qao (.bool false) (fun ρ W hR hh=>?_) ?_
    · clear hF
      have h11:ρ 11=num s0:=hh.1
      have h12:ρ 12=num a:=hh.2.1
      simp only [guarded,QaM]
      go_simp
      exact ⟨Ext.refl _,(HQ.out _).mono fun _ _ h=>h.const⟩
    simp only [List.cons_append,List.nil_append]
    refine hF.out fun W2 hR2=>?_
    simp only [List.take_succ_cons,List.take_zero,List.drop_succ_cons,List.drop_zero,fin,forall_eq,Act.put,List.setIfInBounds_toArray,List.set_cons_zero,List.set_cons_succ]
    clear hF
    have hr2:=Qaa (Qaa hr1 (Qae _)) hR2
    have hA2:=Qaa (Qaa hA1 (Qae _)) hR2
    have hs2:=Qaa (Qaa hs1 (Qae _)) hR2
    have he2:=Ext.trans (Ext.trans he1 (Qae _)) hR2
    clear HA HR hR2 hr1 hA1 hs1 he1
    clear HQ HM HQ0 HM0
    go_wp2
    have HR:Hid (∀ W,Ext W2.drew W→W.heap[gr]? = some (.cells (numA ra) 49)):=Lib.hid fun W hR=>Qaa (Qaa hr2 (Qae _)) hR
    refine Qa1 Ext 6 34 [⟨none,[(4,none)]⟩,⟨none,[]⟩,⟨none,[]⟩,⟨none,[(17,some 2)]⟩,⟨none,[(16,some 1),(18,some 3)]⟩,⟨none,[(15,some 0),(19,some 4)]⟩] kj kj rfl Ext.refl Ext.trans (fun F r0 hr hF=>?_)
    have f4:r0 4=.pointer (some ⟨gr,0,none⟩):=by rw [hr]; rfl
    clear hr
    simp only [List.take_succ_cons,List.take_zero]
    refine Qao (num ra) (fun ρ W hR hh=>?_) ?_
    · clear hF
      exact QbF (.tmp _) rfl _ _ (Eq.trans hh.1 f4) (HR.out W hR)
    refine Qao (num 2) (fun ρ W hR hh=>?_) ?_
    · clear hF
      simp only [guarded,QaM]
      go_simp
      exact ⟨Ext.refl _,(HS2.out _).mono fun _ _ h=>h.const⟩
    refine Qao (.agg (ints .u8 x2)) (fun ρ W hR hh=>?_) ?_
    · clear hF
      simp only [guarded,QaM]
      go_simp
      exact ⟨Ext.refl _,(HE2.out _).mono fun _ _ h=>h.const⟩
    refine QdB (QeL x2) (QdN x2) (fun ρ W hR hh=>?_) ?_
    · clear hF
      have h17:ρ 17=.agg (ints .u8 x2):=hh.1
      simp only [guarded,QaM]
      go_simp
      exact ⟨Ext.refl _,(HB2.out _).mono fun _ _ h=>h.fact⟩
    refine Qao (num ri) (fun ρ W hR hh=>?_) ?_
    · clear hF
      have h16:ρ 16=num 2:=hh.1
      have h18:QeL x2 (ρ 18) W:=hh.2.1
      simp only [guarded,QaM]
      go_simp
      exact ⟨Ext.refl _,(HP2.out _ _ h18).mono fun _ _ h=>h.const⟩
    refine Qao (num rb) (fun ρ W hR hh=>?_) ?_
    · clear hF
      have h15:ρ 15=num ra:=hh.1
      have h19:ρ 19=num ri:=hh.2.1
      simp only [guarded,QaM]
      go_simp
      exact ⟨Ext.refl _,(HMI.out _).mono fun _ _ h=>h.const⟩
    simp only [List.cons_append,List.nil_append]
    refine hF.out fun W3 hR3=>?_
    simp only [List.take_succ_cons,List.take_zero,List.drop_succ_cons,List.drop_zero,fin,forall_eq,Act.put,List.setIfInBounds_toArray,List.set_cons_zero,List.set_cons_succ]
    intro vb hvb
    clear hF f4 hvb
    have hr3:=Qaa (Qaa hr2 (Qae _)) hR3
    refine wpList_store_row rfl 49 _ _ rfl gr (numA rb) rfl rfl 49 _ hr3 QaU rfl (Qb9 _) ?_
    have hr5:=setRow_heap _ _ _ (numA rb) _ _ hr3
    have hA5:=(setRow_other W3 gr w.heap.size (numA rb) (by omega)).trans (Qaa (Qaa hA2 (Qae _)) hR3)
    have hs5:=(setRow_other W3 gr (w.heap.size+1) (numA rb) (by omega)).trans (Qaa (Qaa hs2 (Qae _)) hR3)
    have he5:=QaA (Ext.trans (Ext.trans he2 (Qae _)) hR3) (show w.heap.size≤gr by omega) (numA rb)
    clear hr3 hr2 hA2 hs2 he2 hR3 HR HS2 HE2 HB2 HP2 HMI
    generalize W3.setRow gr (numA rb)=V5 at *
    have HA:Hid (∀ W,Ext V5.drew W→W.heap[w.heap.size]? = some (.cells (numA a) 49)):=Lib.hid fun W hR=>Qaa (Qaa hA5 (Qae _)) hR
    have HR:Hid (∀ W,Ext V5.drew W→W.heap[gr]? = some (.cells (numA rb) 49)):=Lib.hid fun W hR=>Qaa (Qaa hr5 (Qae _)) hR
    have HM:=HM1
    by_cases hz:s1=a
    · have HQ:Hid (∀ w,Calls Tryd.prog 94 #[num s1,num a] w (Ret w (.bool true))):=Lib.hid (QnO s1 a hz i_s1)
      have FIN:Hid (Qdb a=QaZ rb∧Qb3 a=true):=Lib.hid ⟨by rw [FN.out,if_neg HZ.out,if_pos hz],by rw [FB.out,decide_eq_true hz,Bool.or_true]⟩
      clear hz FN FB HZ
      go_wp2
      refine Qa1 Ext 5 34 [⟨none,[(4,none)]⟩,⟨none,[(4,none)]⟩,⟨none,[(21,some 0),(22,some 1)]⟩,⟨none,[(1,none)]⟩,⟨none,[(23,some 2),(24,some 3)]⟩] kj kj rfl Ext.refl Ext.trans (fun F r0 hr hF=>?_)
      have f4:r0 4=.pointer (some ⟨gr,0,none⟩):=by rw [hr]; rfl
      have f1:r0 1=.pointer (some ⟨w.heap.size,0,none⟩):=by rw [hr]; rfl
      clear hr
      simp only [List.take_succ_cons,List.take_zero]
      refine Qao (num rb) (fun ρ W hR hh=>?_) ?_
      · clear hF
        have h4:ρ 4=.pointer (some ⟨gr,0,none⟩):=Eq.trans hh.1 f4
        exact QbF (.tmp _) rfl _ _  h4 (HR.out W hR)
      refine Qao (num rb) (fun ρ W hR hh=>?_) ?_
      · clear hF
        have h4:ρ 4=.pointer (some ⟨gr,0,none⟩):=Eq.trans hh.1 f4
        exact QbF (.tmp _) rfl _ _  h4 (HR.out W hR)
      refine Qao (num s1) (fun ρ W hR hh=>?_) ?_
      · clear hF
        have h21:ρ 21=num rb:=hh.1
        have h22:ρ 22=num rb:=hh.2.1
        simp only [guarded,QaM]
        go_simp
        exact ⟨Ext.refl _,(HM.out _).mono fun _ _ h=>h.const⟩
      refine Qao (num a) (fun ρ W hR hh=>?_) ?_
      · clear hF
        have h1:ρ 1=.pointer (some ⟨w.heap.size,0,none⟩):=Eq.trans hh.1 f1
        exact QbF (.tmp _) rfl _ _  h1 (HA.out W hR)
      refine Qao (.bool true) (fun ρ W hR hh=>?_) ?_
      · clear hF
        have h23:ρ 23=num s1:=hh.1
        have h24:ρ 24=num a:=hh.2.1
        simp only [guarded,QaM]
        go_simp
        exact ⟨Ext.refl _,(HQ.out _).mono fun _ _ h=>h.const⟩
      simp only [List.cons_append,List.nil_append]
      refine hF.out fun W4 hR4=>?_
      simp only [List.take_succ_cons,List.take_zero,List.drop_succ_cons,List.drop_zero,fin,forall_eq,Act.put,List.setIfInBounds_toArray,List.set_cons_zero,List.set_cons_succ]
      clear hF
      have hr4:=Qaa (Qaa hr5 (Qae _)) hR4
      have hA4:=Qaa (Qaa hA5 (Qae _)) hR4
      have hs4:=Qaa (Qaa hs5 (Qae _)) hR4
      have he4:=Ext.trans (Ext.trans he5 (Qae _)) hR4
      clear HA HR hR4 hr5 hA5 hs5 he5
      by_cases ho:rb%2=1
      · have HO:Hid (∀ w,Calls Tryd.prog 51 #[.agg (numA rb)] w (Ret w (.bool true))):=Lib.hid fun w=>by
          have:=odd rb i_rb w
          rw [ho] at this
          exact this
        have HN:Hid (∀ w,Calls Tryd.prog 69 #[.agg #[.int .u64 0,.int .u64 0,.int .u64 0,.int .u64 0],.agg (numA rb)] w (Ret w (.agg (numA (QaZ rb))))):=Lib.hid fun w=>by
          have:=sub 0 rb Qew i_rb w
          rw [show (0-rb)%p=QaZ rb by unfold QaZ; rw [if_pos ho]] at this
          exact this
        generalize hev:QaZ rb=ev at *
        clear ho
        go_wp2_with first
          | (go_at_call 51
             (with_reducible refine (HO.out _).mono ?_)
             rintro e w6 ⟨rfl,hw6⟩
             clear HO
             have hr6:=Qaa hr4 hw6
             have hs6:=Qaa hs4 hw6
             have he6:=Ext.trans he4 hw6
             clear hr4 hs4 he4 hw6)
          | (go_at_call 69
             (with_reducible refine (HN.out _).mono ?_)
             rintro e w7 ⟨rfl,hw7⟩
             clear HN
             have hr7:=Qaa hr6 hw7
             have hs7:=Qaa hs6 hw7
             have he7:=Ext.trans he6 hw7
             clear hr6 hs6 he6 hw7)
          | (with_reducible show wpList _ _ _ ((⟨_,.load 49 _,_,_,_,_⟩:Oper)::_) _ _
             refine wpList_load_row rfl 49 _ rfl gr rfl 49 _ (0,0) _ hr4 Tryd.underlying49 rfl QaU ?_)
          | (with_reducible show wpList _ _ _ ((⟨_,.load 49 _,_,_,_,_⟩:Oper)::_) _ _
             refine wpList_load_row rfl 49 _ rfl gr rfl 49 _ (0,0) _ hr6 Tryd.underlying49 rfl QaU ?_)
          | (with_reducible show wpList _ _ _ ((⟨_,.load 49 _,_,_,_,_⟩:Oper)::_) _ _
             refine wpList_load_row rfl 49 _ rfl gr rfl 49 _ (0,0) _ hr8 Tryd.underlying49 rfl QaU ?_)
          | (with_reducible show wpList _ _ _ ((⟨_,.store 49 _ _,_,_,_,_⟩:Oper)::_) _ _
             refine wpList_store_row rfl 49 _ _ rfl gr (numA ev) rfl rfl 49 _ hr7 QaU rfl (Qb9 _) ?_
             have hr8:=setRow_heap _ _ _ (numA ev) _ _ hr7
             have hs8:=(setRow_other w7 gr (w.heap.size+1) (numA ev) (by omega)).trans hs7
             have he8:=QaA he7 (show w.heap.size≤gr by omega) (numA ev)
             clear hr7)
          | (with_reducible show wpList _ _ _ ((⟨_,.store 49 _ _,_,_,_,_⟩:Oper)::_) _ _
             refine wpList_store_row rfl 49 _ _ rfl (w.heap.size+1) (numA ev) rfl rfl 49 _ hs8 QaU hbs (Qb9 _) ?_)
        exact bodyPost_ret (Qbg rfl _ _ (w.heap.size+1) 49 _ (0,0) _ rfl _ rfl (setRow_heap _ _ _ _ _ _ hs8) Tryd.underlying49 rfl QaU) rfl ⟨by rw [FIN.out.1,FIN.out.2]; rfl,QaA he8 (by omega) _⟩
      · have HO:Hid (∀ w,Calls Tryd.prog 51 #[.agg (numA rb)] w (Ret w (.bool false))):=Lib.hid fun w=>by
          have:=odd rb i_rb w
          rw [show (rb%2==1)=false by simpa using ho] at this
          exact this
        have hev:QaZ rb=rb:=by unfold QaZ; rw [if_neg ho]
        clear ho
        have HEV:=Lib.hid hev
        clear hev
        go_wp2_with first
          | (go_at_call 51
             (with_reducible refine (HO.out _).mono ?_)
             rintro e w6 ⟨rfl,hw6⟩
             clear HO
             have hr6:=Qaa hr4 hw6
             have hs6:=Qaa hs4 hw6
             have he6:=Ext.trans he4 hw6
             clear hr4 hs4 he4 hw6)
          | (with_reducible show wpList _ _ _ ((⟨_,.load 49 _,_,_,_,_⟩:Oper)::_) _ _
             refine wpList_load_row rfl 49 _ rfl gr rfl 49 _ (0,0) _ hr4 Tryd.underlying49 rfl QaU ?_)
          | (with_reducible show wpList _ _ _ ((⟨_,.load 49 _,_,_,_,_⟩:Oper)::_) _ _
             refine wpList_load_row rfl 49 _ rfl gr rfl 49 _ (0,0) _ hr6 Tryd.underlying49 rfl QaU ?_)
          | (with_reducible show wpList _ _ _ ((⟨_,.store 49 _ _,_,_,_,_⟩:Oper)::_) _ _
             refine wpList_store_row rfl 49 _ _ rfl (w.heap.size+1) (numA rb) rfl rfl 49 _ hs6 QaU hbs (Qb9 _) ?_)
        exact bodyPost_ret (Qbg rfl _ _ (w.heap.size+1) 49 _ (0,0) _ rfl _ rfl (setRow_heap _ _ _ _ _ _ hs6) Tryd.underlying49 rfl QaU) rfl ⟨by rw [FIN.out.1,FIN.out.2,HEV.out]; rfl,QaA he6 (by omega) _⟩
    · have HQ:Hid (∀ w,Calls Tryd.prog 94 #[num s1,num a] w (Ret w (.bool false))):=Lib.hid (Qji s1 a hz i_s1 ha)
      have FIN:Hid (Qdb a=0∧Qb3 a=false):=Lib.hid ⟨by rw [FN.out,if_neg HZ.out,if_neg hz],by rw [FB.out,decide_eq_false HZ.out,decide_eq_false hz]; rfl⟩
      clear hz FN FB HZ
      go_wp2
      refine Qa1 Ext 5 34 [⟨none,[(4,none)]⟩,⟨none,[(4,none)]⟩,⟨none,[(21,some 0),(22,some 1)]⟩,⟨none,[(1,none)]⟩,⟨none,[(23,some 2),(24,some 3)]⟩] kj kj rfl Ext.refl Ext.trans (fun F r0 hr hF=>?_)
      have f4:r0 4=.pointer (some ⟨gr,0,none⟩):=by rw [hr]; rfl
      have f1:r0 1=.pointer (some ⟨w.heap.size,0,none⟩):=by rw [hr]; rfl
      clear hr
      simp only [List.take_succ_cons,List.take_zero]
      refine Qao (num rb) (fun ρ W hR hh=>?_) ?_
      · clear hF
        have h4:ρ 4=.pointer (some ⟨gr,0,none⟩):=Eq.trans hh.1 f4
        exact QbF (.tmp _) rfl _ _  h4 (HR.out W hR)
      refine Qao (num rb) (fun ρ W hR hh=>?_) ?_
      · clear hF
        have h4:ρ 4=.pointer (some ⟨gr,0,none⟩):=Eq.trans hh.1 f4
        exact QbF (.tmp _) rfl _ _  h4 (HR.out W hR)
      refine Qao (num s1) (fun ρ W hR hh=>?_) ?_
      · clear hF
        have h21:ρ 21=num rb:=hh.1
        have h22:ρ 22=num rb:=hh.2.1
        simp only [guarded,QaM]
        go_simp
        exact ⟨Ext.refl _,(HM.out _).mono fun _ _ h=>h.const⟩
      refine Qao (num a) (fun ρ W hR hh=>?_) ?_
      · clear hF
        have h1:ρ 1=.pointer (some ⟨w.heap.size,0,none⟩):=Eq.trans hh.1 f1
        exact QbF (.tmp _) rfl _ _  h1 (HA.out W hR)
      refine Qao (.bool false) (fun ρ W hR hh=>?_) ?_
      · clear hF
        have h23:ρ 23=num s1:=hh.1
        have h24:ρ 24=num a:=hh.2.1
        simp only [guarded,QaM]
        go_simp
        exact ⟨Ext.refl _,(HQ.out _).mono fun _ _ h=>h.const⟩
      simp only [List.cons_append,List.nil_append]
      refine hF.out fun W4 hR4=>?_
      simp only [List.take_succ_cons,List.take_zero,List.drop_succ_cons,List.drop_zero,fin,forall_eq,Act.put,List.setIfInBounds_toArray,List.set_cons_zero,List.set_cons_succ]
      clear hF
      have hr4:=Qaa (Qaa hr5 (Qae _)) hR4
      have hA4:=Qaa (Qaa hA5 (Qae _)) hR4
      have hs4:=Qaa (Qaa hs5 (Qae _)) hR4
      have he4:=Ext.trans (Ext.trans he5 (Qae _)) hR4
      clear HA HR hR4 hr5 hA5 hs5 he5
      go_wp2_with first
        | (with_reducible show wpList _ _ _ ((⟨_,.store 49 _ _,_,_,_,_⟩:Oper)::_) _ _
           refine wpList_store_row rfl 49 _ _ rfl (w.heap.size+1) (numA 0) rfl rfl 49 _ hs4 QaU hbs (Qb9 _) ?_)
      exact bodyPost_ret (Qbg rfl _ _ (w.heap.size+1) 49 _ (0,0) _ rfl _ rfl (setRow_heap _ _ _ _ _ _ hs4) Tryd.underlying49 rfl QaU) rfl ⟨by rw [FIN.out.1,FIN.out.2]; rfl,QaA he4 (by omega) _⟩
end Go.Proofs.YtdoadngmgmdlbaaDoor.Field
end
section
namespace Go.Proofs.YtdoadngmgmdlbaaDoor.Field
open Go Go.RowKit
open Rely
theorem Qln (n : Int) (k:Nat):limb (n/2) k=limb n k/2+limb n (k+1)%2*32768:=by
  unfold limb
  rw [Int.pow_succ,←Int.ediv_ediv_of_nonneg (Int.le_of_lt (Qfd k)),Int.ediv_ediv_of_nonneg (by decide),Int.mul_comm 2,←Int.ediv_ediv_of_nonneg (Int.le_of_lt (Qfd k))]
  generalize n/65536^k=q
  omega
theorem Qne (n : Int) (h:0≤n∧n<big):limb n 16=0:=by
  unfold limb
  rw [QfZ,Int.ediv_eq_zero_of_lt h.1 h.2]
  rfl
theorem Qlv (n : Int) (hn:0≤n∧n<big) (w:World):Calls Tryd.prog 95 #[lnum n] w (Ret w (lnum (n/2))):=by
  unfold lnum
  go_enter Tryd.func95,Tryd.ntmps95
  go_wp2_with fail
  go_loopw [3] (fun i wr=>∃ k:Nat,k≤16∧i=.int .i64 k∧Ext w wr∧wr.heap[w.heap.size]? = some (.cells (ints .i64 (mix 16 (limb (n/2)) (limb n) k)) 58) ∧
    ∃ b,b.size=16∧wr.heap[w.heap.size+1]? = some (.cells b 58)) (fun i _=>16-(intOf i).toNat)
  case atStart=>exact ⟨0,by omega,rfl,Ext.trans (QaG _ _) (QaG _ _),by rw [QdW]; exact Qec _ _ _,_,rfl,Qeb _ _ _⟩
  case round =>
    obtain ⟨k,hk,rfl,he,hA,b,hbs,hB⟩:=hrel
    by_cases hlt:k<16
    · have hX:(ints .i64 (mix 16 (limb (n/2)) (limb n) k))[k]? = some (.int .i64 (limb n k)):=by rw [Qar _ _ _ (by rw [mix_len]; exact hlt),QbJ _ _ _ _ _ hlt,if_neg (by omega)]
      have hS:(ints .i64 (mix 16 (limb (n/2)) (limb n) k)).setIfInBounds k (.int .i64 (limb (n/2) k))=ints .i64 (mix 16 (limb (n/2)) (limb n) (k+1)):=by rw [Qbx,mix_set _ _ _ _ hlt]
      have hh:=Qln n k
      have b1:=QaS n k
      have hcx:=Qa9 hA hX
      have hfx:=Qbm hA k
      by_cases hk15:k<15
      · have hY:(ints .i64 (mix 16 (limb (n/2)) (limb n) k))[k+1]? = some (.int .i64 (limb n (k+1))):=by rw [Qar _ _ _ (by rw [mix_len]; omega),QbJ _ _ _ _ _ (by omega),if_neg (by omega)]
        have b2:=QaS n (k+1)
        have hcy:=Qa9 hA hY
        have HH:=Lib.hid hh
        clear hh
        generalize hlx:limb n k=lx at *
        generalize hly:limb n (k+1)=ly at *
        have w1:lx.tdiv 2=lx/2:=Int.tdiv_eq_ediv_of_nonneg (by omega)
        have w2:IntKind.i64.wrap (lx/2)=lx/2:=IntWalk.i64_in _ (by omega)
        have w3:ly.tmod 2=ly%2:=Int.tmod_eq_emod_of_nonneg (by omega)
        have w4:IntKind.i64.wrap (ly%2)=ly%2:=IntWalk.i64_in _ (by omega)
        have w5:IntKind.i64.wrap (ly%2*32768)=ly%2*32768:=IntWalk.i64_in _ (by omega)
        have w6:IntKind.i64.wrap (lx/2+ly%2*32768)=lx/2+ly%2*32768:=IntWalk.i64_in _ (by omega)
        have q1:IntKind.i64.wrap ((k:Int)+1)=(k:Int)+1:=IntWalk.i64_in _ (by omega)
        have q2:((k:Int)+1).toNat=k+1:=by omega
        have q3:(0:Int)≤(k:Int)+1:=by omega
        have q4:(k:Int)+1<16:=by omega
        have q5:(k:Int)<15:=by omega
        go_wp2
        exact ⟨⟨k+1,by omega,by go_num,QbS he (qR _) _ _,(QbQ _ _ hA).trans (by rw [←HH.out,hS]),b,hbs,(Qa3 _ _ (by omega)).trans hB⟩,by simp [intOf]; omega⟩
      · obtain rfl:k=15:=by omega
        rw [Qne n hn] at hh
        have HH:=Lib.hid hh
        clear hh
        generalize hlx:limb n 15=lx at *
        have w1:lx.tdiv 2=lx/2:=Int.tdiv_eq_ediv_of_nonneg (by omega)
        have w2:IntKind.i64.wrap (lx/2)=lx/2:=IntWalk.i64_in _ (by omega)
        go_wp2
        exact ⟨⟨16,by omega,by go_num,QbS he (qR _) _ _,(QbQ _ _ hA).trans (by
          have e:limb (n/2) 15=lx/2:=by
            have:=HH.out
            omega
          first
            | rw [←e,hS]
            | rw [w2,←e,hS]),b,hbs,(Qa3 _ _ (by omega)).trans hB⟩,by simp [intOf]⟩
    · obtain rfl:k=16:=by omega
      have hi:=QaY _ (mix_len 16 (limb (n/2)) (limb n) 16)
      go_wp2_with first
        | (with_reducible show wpList _ _ _ ((⟨_,.load 58 _,_,_,_,_⟩:Oper)::_) _ _
           refine wpList_load_row rfl 58 _ rfl w.heap.size rfl 58 _ (0,0) _ hA Tryd.underlying58 rfl hi ?_)
        | (with_reducible show wpList _ _ _ ((⟨_,.store 58 _ _,_,_,_,_⟩:Oper)::_) _ _
           refine wpList_store_row rfl 58 _ _ rfl (w.heap.size+1) _ rfl rfl 58 _ hB hi (by rw [hbs,Qad,mix_len]) (ints_one _ _) ?_)
      exact bodyPost_ret (results_cell_row (p:=2) rfl _ _ (w.heap.size+1) 58 _ (0,0) _ rfl (setRow_heap _ _ _ _ _ _ hB) Tryd.underlying58 rfl hi) rfl ⟨by rw [Qdy _ _ _ _ (qR _)]; rfl,QaA he (by omega) _⟩
end Go.Proofs.YtdoadngmgmdlbaaDoor.Field
end
section
namespace Go.Proofs.YtdoadngmgmdlbaaDoor.Field
open Go Go.RowKit
open Rely
theorem Qjp (x : Int):limb x 0%2=x%2:=by
  unfold limb
  rw [Int.pow_zero,Int.ediv_one]
  omega
theorem Qpc : (ints .i64 (lims p)).setIfInBounds 0 (.int .i64 65520)=ints .i64 (lims (p+3)):=by
  rw [Qbx]
  exact congrArg (ints .i64) (by decide +kernel)
theorem Qpd : (ints .i64 (lims p))[0]? = some (.int .i64 65517):=by
  rw [Qar _ _ _ (by rw [Qa0]; decide),QbZ _ _ (by decide)]
  exact congrArg (fun v=>some (Value.int .i64 v)) (by decide +kernel)
theorem Qhd (x y:Int) (hx:isN x) (hy:isN y) (b:Bool) (h:decide (x=y)=b) (W:World):(binOp .eql 58 (.agg (ints .i64 (lims x))) (.agg (ints .i64 (lims y)))).run Tryd.prog W=.ok (.bool b) W:=by
  rw [Qhc W Tryd.underlying58 Tryd.underlying3 kj _ _ (Qa0 x) (Qa0 y),←h]
  congr 2
  exact decide_eq_decide.2 ⟨fun e=>Qjo (by rw [QfZ]; exact QbR hx) (by rw [QfZ]; exact QbR hy) e,fun e=>by rw [e]⟩
set_option maxRecDepth 100000 in
set_option maxHeartbeats 8000000 in
theorem Qrq (a : Int) (ha:isN a) (w:World):Calls Tryd.prog 75 #[lnum a] w (Ret w (.tuple #[lnum (Qdb a),.bool (Qb3 a)])):=by
  have hpb:p<big:=by decide
  have pi:(0:Int)≤p∧p<big:=by decide
  have HPR:Hid (∀ w,Calls Tryd.prog 85 #[] w (Ret w (.agg (ints .i64 (lims p))))):=Lib.hid prime
  have HH1:Hid (∀ w,Calls Tryd.prog 95 #[.agg (ints .i64 (lims (p+3)))] w (Ret w (.agg (ints .i64 (lims ((p+3)/2)))))):=Lib.hid (Qlv _ (by decide))
  have HH2:Hid (∀ w,Calls Tryd.prog 95 #[.agg (ints .i64 (lims ((p+3)/2)))] w (Ret w (.agg (ints .i64 (lims ((p+3)/2/2)))))):=Lib.hid (Qlv _ (by decide))
  have HH3:Hid (∀ w,Calls Tryd.prog 95 #[.agg (ints .i64 (lims ((p+3)/2/2)))] w (Ret w (.agg (ints .i64 (lims ((p+3)/2/2/2)))))):=Lib.hid (Qlv _ (by decide))
  have HPA:Hid (∀ w,Calls Tryd.prog 83 #[.agg (ints .i64 (lims a)),.agg (ints .i64 (lims ((p+3)/2/2/2)))] w (Ret w (.agg (ints .i64 (lims (QaQ a)))))):=Lib.hid fun w=>by
    have:=Qlu a ((p+3)/2/2/2) ha (by decide) w
    rw [show (p+3)/2/2/2=7237005577332262213973186563042994240829374041602535252466099000494570602494 by decide,QkD] at this
    rw [show (p+3)/2/2/2=7237005577332262213973186563042994240829374041602535252466099000494570602494 by decide]
    exact this
  have HM1:Hid (∀ w,Calls Tryd.prog 84 #[.agg (ints .i64 (lims p)),.agg #[.int .i64 1,.int .i64 0,.int .i64 0,.int .i64 0,.int .i64 0,.int .i64 0,.int .i64 0,.int .i64 0,.int .i64 0,.int .i64 0,.int .i64 0,.int .i64 0,.int .i64 0,.int .i64 0,.int .i64 0,.int .i64 0]] w (Ret w (.agg (ints .i64 (lims (p-1)))))):=Lib.hid fun w=>by
    have:=minus p 1 (by decide) (by decide) hpb w
    unfold lnum at this
    rw [show ints .i64 (lims 1)=#[.int .i64 1,.int .i64 0,.int .i64 0,.int .i64 0,.int .i64 0,.int .i64 0,.int .i64 0,.int .i64 0,.int .i64 0,.int .i64 0,.int .i64 0,.int .i64 0,.int .i64 0,.int .i64 0,.int .i64 0,.int .i64 0] by rw [Qjn]; rfl] at this
    exact this
  have HH4:Hid (∀ w,Calls Tryd.prog 95 #[.agg (ints .i64 (lims (p-1)))] w (Ret w (.agg (ints .i64 (lims ((p-1)/2)))))):=Lib.hid (Qlv _ (by decide))
  have HH5:Hid (∀ w,Calls Tryd.prog 95 #[.agg (ints .i64 (lims ((p-1)/2)))] w (Ret w (.agg (ints .i64 (lims ((p-1)/2/2)))))):=Lib.hid (Qlv _ (by decide))
  have HPI:Hid (∀ w,Calls Tryd.prog 83 #[.agg #[.int .i64 2,.int .i64 0,.int .i64 0,.int .i64 0,.int .i64 0,.int .i64 0,.int .i64 0,.int .i64 0,.int .i64 0,.int .i64 0,.int .i64 0,.int .i64 0,.int .i64 0,.int .i64 0,.int .i64 0,.int .i64 0],.agg (ints .i64 (lims ((p-1)/2/2)))] w (Ret w (.agg (ints .i64 (lims Qbn))))):=Lib.hid fun w=>by
    have:=Qlu 2 ((p-1)/2/2) Qk0 (by decide) w
    unfold lnum at this
    rw [show ints .i64 (lims 2)=#[.int .i64 2,.int .i64 0,.int .i64 0,.int .i64 0,.int .i64 0,.int .i64 0,.int .i64 0,.int .i64 0,.int .i64 0,.int .i64 0,.int .i64 0,.int .i64 0,.int .i64 0,.int .i64 0,.int .i64 0,.int .i64 0] by rw [Qjm]; rfl,show (p-1)/2/2=14474011154664524427946373126085988481658748083205070504932198000989141204987 by decide,QjR] at this
    rw [show (p-1)/2/2=14474011154664524427946373126085988481658748083205070504932198000989141204987 by decide]
    exact this
  have i_ra:=QdE a
  have i_rb:isN (QaQ a*Qbn%p):=isN_mod _
  have i_s0:isN (QaQ a*QaQ a%p):=isN_mod _
  have i_s1:isN (QaQ a*Qbn%p*(QaQ a*Qbn%p)%p):=isN_mod _
  have HM0:Hid (∀ w,Calls Tryd.prog 58 #[.agg (ints .i64 (lims (QaQ a))),.agg (ints .i64 (lims (QaQ a)))] w (Ret w (.agg (ints .i64 (lims (QaQ a*QaQ a%p)))))):=Lib.hid (lMul _ _ (QbR i_ra) (QbR i_ra))
  have HMI:Hid (∀ w,Calls Tryd.prog 58 #[.agg (ints .i64 (lims (QaQ a))),.agg (ints .i64 (lims Qbn))] w (Ret w (.agg (ints .i64 (lims (QaQ a*Qbn%p)))))):=Lib.hid (lMul _ _ (QbR i_ra) (QbR Qf7))
  have HMB:Hid (∀ w,Calls Tryd.prog 58 #[.agg (ints .i64 (lims (QaQ a*Qbn%p))),.agg (ints .i64 (lims (QaQ a*Qbn%p)))] w (Ret w (.agg (ints .i64 (lims (QaQ a*Qbn%p*(QaQ a*Qbn%p)%p)))))):=Lib.hid (lMul _ _ (QbR i_rb) (QbR i_rb))
  have HMJ:Hid (∀ w,Calls Tryd.prog 58 #[.agg (ints .i64 (lims (QaQ a*Qbn%p))),.agg (ints .i64 (lims Qbn))] w (Ret w (.agg (ints .i64 (lims (QaQ a*Qbn%p*Qbn%p)))))):=Lib.hid (lMul _ _ (QbR i_rb) (QbR Qf7))
  have FN:Hid (Qdb a=(if QaQ a*QaQ a%p=a then QaZ (QaQ a) else if QaQ a*Qbn%p*(QaQ a*Qbn%p)%p=a then QaZ (QaQ a*Qbn%p) else 0)):=Lib.hid rfl
  have FB:Hid (Qb3 a=(decide (QaQ a*QaQ a%p=a) || decide (QaQ a*Qbn%p*(QaQ a*Qbn%p)%p=a))):=Lib.hid rfl
  have hgl:Tryd.prog.eqGuardType Tryd.prog.depth 58=false:=kj
  generalize hs0:QaQ a*QaQ a%p=s0 at *
  generalize hs1:QaQ a*Qbn%p*(QaQ a*Qbn%p)%p=s1 at *
  clear hs0 hs1
  generalize QaQ a*Qbn%p*Qbn%p=rj at *
  generalize QaQ a*Qbn%p=rb at *
  generalize QaQ a=ra at *
  generalize Qbn=ri at *
  have g0:=Qpd
  have g3:=Qpc
  have lp:=Qa0 p
  have la:=Qa0 a
  have l3:=Qa0 (p+3)
  have lra:=Qa0 ra
  have lrb:=Qa0 rb
  have lri:=Qa0 ri
  have lrj:=Qa0 rj
  unfold lnum
  go_enter Tryd.func75,Tryd.ntmps75
  go_wp2_with first
    | (go_at_call 85
       (with_reducible refine (HPR.out _).mono ?_)
       rintro e w1 ⟨rfl,hw1⟩)
    | (with_reducible show wpList _ _ _ ((⟨_,.store 58 _ _,_,_,_,_⟩:Oper)::_) _ _
       refine wpList_store_row rfl 58 _ _ rfl w1.heap.size (ints .i64 (lims p)) rfl rfl 58 _ (heap_alloc_new _ _) (QaY _ lp) (by rw [Qad,lp]; rfl) (ints_one _ _) ?_
       have he0:Ext w ((w.alloc (.cells (ints .i64 (lims a)) 58)).alloc (.cells #[.int .i64 0,.int .i64 0,.int .i64 0,.int .i64 0,.int .i64 0,.int .i64 0,.int .i64 0,.int .i64 0,.int .i64 0,.int .i64 0,.int .i64 0,.int .i64 0,.int .i64 0,.int .i64 0,.int .i64 0,.int .i64 0] 58)):=Ext.trans (QaG _ _) (QaG _ _)
       have hA1:=Qaa (Qec w (.cells (ints .i64 (lims a)) 58) (.cells #[.int .i64 0,.int .i64 0,.int .i64 0,.int .i64 0,.int .i64 0,.int .i64 0,.int .i64 0,.int .i64 0,.int .i64 0,.int .i64 0,.int .i64 0,.int .i64 0,.int .i64 0,.int .i64 0,.int .i64 0,.int .i64 0] 58)) hw1
       have hS1:=Qaa (Qeb w (.cells (ints .i64 (lims a)) 58) (.cells #[.int .i64 0,.int .i64 0,.int .i64 0,.int .i64 0,.int .i64 0,.int .i64 0,.int .i64 0,.int .i64 0,.int .i64 0,.int .i64 0,.int .i64 0,.int .i64 0,.int .i64 0,.int .i64 0,.int .i64 0,.int .i64 0] 58)) hw1
       have hsz1:=hw1.size
       have he1:=Ext.trans he0 hw1
       have hE:=setRow_heap _ _ _ (ints .i64 (lims p)) _ _ (heap_alloc_new w1 (.cells #[.int .i64 0,.int .i64 0,.int .i64 0,.int .i64 0,.int .i64 0,.int .i64 0,.int .i64 0,.int .i64 0,.int .i64 0,.int .i64 0,.int .i64 0,.int .i64 0,.int .i64 0,.int .i64 0,.int .i64 0,.int .i64 0] 58))
       have hX:=QaA (QaG w1 (.cells #[.int .i64 0,.int .i64 0,.int .i64 0,.int .i64 0,.int .i64 0,.int .i64 0,.int .i64 0,.int .i64 0,.int .i64 0,.int .i64 0,.int .i64 0,.int .i64 0,.int .i64 0,.int .i64 0,.int .i64 0,.int .i64 0] 58)) (qR _) (ints .i64 (lims p))
       have hA:=Qaa hA1 hX
       have hS:=Qaa hS1 hX
       have he:=Ext.trans he1 hX
       have hge:w.heap.size+1<w1.heap.size:=QaB hS1
       have hcx:=Qa9 hE g0
       have hfx:=Qbm hE 0
       have hE3:=QbQ 0 (.int .i64 65520) hE
       rw [g3] at hE3
       have hA3:=(Qa3 (W:=(w1.alloc (.cells #[.int .i64 0,.int .i64 0,.int .i64 0,.int .i64 0,.int .i64 0,.int .i64 0,.int .i64 0,.int .i64 0,.int .i64 0,.int .i64 0,.int .i64 0,.int .i64 0,.int .i64 0,.int .i64 0,.int .i64 0,.int .i64 0] 58)).setRow w1.heap.size (ints .i64 (lims p))) 0 (.int .i64 65520) (show w.heap.size≠w1.heap.size by omega)).trans hA
       have hS3:=(Qa3 (W:=(w1.alloc (.cells #[.int .i64 0,.int .i64 0,.int .i64 0,.int .i64 0,.int .i64 0,.int .i64 0,.int .i64 0,.int .i64 0,.int .i64 0,.int .i64 0,.int .i64 0,.int .i64 0,.int .i64 0,.int .i64 0,.int .i64 0,.int .i64 0] 58)).setRow w1.heap.size (ints .i64 (lims p))) 0 (.int .i64 65520) (show w.heap.size+1≠w1.heap.size by omega)).trans hS
       have he3:=QbS he (show w.heap.size≤w1.heap.size by omega) 0 (.int .i64 65520)
       generalize hV:(w1.alloc (.cells #[.int .i64 0,.int .i64 0,.int .i64 0,.int .i64 0,.int .i64 0,.int .i64 0,.int .i64 0,.int .i64 0,.int .i64 0,.int .i64 0,.int .i64 0,.int .i64 0,.int .i64 0,.int .i64 0,.int .i64 0,.int .i64 0] 58)).setRow w1.heap.size (ints .i64 (lims p))=V at *
       generalize w1.heap.size=ge at *
       generalize hV3:V.setCell ⟨ge,0,none⟩ (.int .i64 65520)=V3 at *
       clear hE hA hS he hA1 hS1 he1 he0 hX hw1 hV)
  clear hcx hfx g0 g3 hV3
  have hsz:=he3.size
  have hlS:=QaB hS3
  have HA:Hid (∀ W,Ext V3.drew W→W.heap[w.heap.size]? = some (.cells (ints .i64 (lims a)) 58)):=Lib.hid fun W hR=>Qaa (Qaa hA3 (Qae _)) hR
  have HE:Hid (∀ W,Ext V3.drew W→W.heap[ge]? = some (.cells (ints .i64 (lims (p+3))) 58)):=Lib.hid fun W hR=>Qaa (Qaa hE3 (Qae _)) hR
  refine Qa1 Ext 7 47 [⟨none,[(1,none)]⟩,⟨none,[(4,none)]⟩,⟨none,[(14,some 1)]⟩,⟨none,[(15,some 2)]⟩,⟨none,[(16,some 3)]⟩,⟨none,[(13,some 0),(17,some 4)]⟩,⟨none,[]⟩] kj kj rfl Ext.refl Ext.trans (fun F r0 hr hF=>?_)
  have f1:r0 1=.pointer (some ⟨w.heap.size,0,none⟩):=by rw [hr]; rfl
  have f4:r0 4=.pointer (some ⟨ge,0,none⟩):=by rw [hr]; rfl
  clear hr
  simp only [List.take_succ_cons,List.take_zero]
  refine Qao (.agg (ints .i64 (lims a))) (fun ρ W hR hh=>?_) ?_
  · clear hF
    have h1:ρ 1=.pointer (some ⟨w.heap.size,0,none⟩):=Eq.trans hh.1 f1
    exact Qa6 58 (.tmp _) rfl _ h1 58 _ (0,0) _ (HA.out W hR) Tryd.underlying58 rfl (QaY _ (Qa0 _))
  refine Qao (.agg (ints .i64 (lims (p+3)))) (fun ρ W hR hh=>?_) ?_
  · clear hF
    have h4:ρ 4=.pointer (some ⟨ge,0,none⟩):=Eq.trans hh.1 f4
    exact Qa6 58 (.tmp _) rfl _ h4 58 _ (0,0) _ (HE.out W hR) Tryd.underlying58 rfl (QaY _ (Qa0 _))
  refine Qao (.agg (ints .i64 (lims ((p+3)/2)))) (fun ρ W hR hh=>?_) ?_
  · clear hF
    have h14:ρ 14=.agg (ints .i64 (lims (p+3))):=hh.1
    simp only [guarded,QaM]
    go_simp
    exact ⟨Ext.refl _,(HH1.out _).mono fun _ _ h=>h.const⟩
  refine Qao (.agg (ints .i64 (lims ((p+3)/2/2)))) (fun ρ W hR hh=>?_) ?_
  · clear hF
    have h15:ρ 15=.agg (ints .i64 (lims ((p+3)/2))):=hh.1
    simp only [guarded,QaM]
    go_simp
    exact ⟨Ext.refl _,(HH2.out _).mono fun _ _ h=>h.const⟩
  refine Qao (.agg (ints .i64 (lims ((p+3)/2/2/2)))) (fun ρ W hR hh=>?_) ?_
  · clear hF
    have h16:ρ 16=.agg (ints .i64 (lims ((p+3)/2/2))):=hh.1
    simp only [guarded,QaM]
    go_simp
    exact ⟨Ext.refl _,(HH3.out _).mono fun _ _ h=>h.const⟩
  refine Qao (.agg (ints .i64 (lims ra))) (fun ρ W hR hh=>?_) ?_
  · clear hF
    have h13:ρ 13=.agg (ints .i64 (lims a)):=hh.1
    have h17:ρ 17=.agg (ints .i64 (lims ((p+3)/2/2/2))):=hh.2.1
    simp only [guarded,QaM]
    go_simp
    exact ⟨Ext.refl _,(HPA.out _).mono fun _ _ h=>h.const⟩
  simp only [List.cons_append,List.nil_append]
  refine QdB (Qmd 58 16 V3.heap.size) (QeE _ _ _) (fun ρ W hR hh=>?_) ?_
  · have hsz:V3.heap.size≤W.heap.size:=hR.size
    simp only [guarded,QaM]
    go_simp
    exact ⟨QaG _ _,_,rfl,by omega,by simp,_,rfl,heap_alloc_new _ _⟩
  simp only [List.cons_append,List.nil_append]
  refine hF.out fun W1 hR1=>?_
  simp only [List.take_succ_cons,List.take_zero,List.drop_succ_cons,List.drop_zero,fin,forall_eq,Act.put,List.setIfInBounds_toArray,List.set_cons_zero,List.set_cons_succ]
  clear hF
  rintro vg ⟨gr,rfl,lg,ug,cg,sg,kg⟩
  clear f1 f4
  refine wpList_store_row rfl 58 _ _ rfl gr (ints .i64 (lims ra)) rfl rfl 58 _ kg (QaY _ lra) (by rw [sg,Qad,lra]) (ints_one _ _) ?_
  have hE1:=Ext.trans (Qae V3) hR1
  have hr4:=setRow_heap _ _ _ (ints .i64 (lims ra)) _ _ kg
  have hA4:=(setRow_other W1 gr w.heap.size (ints .i64 (lims ra)) (by omega)).trans (Qaa hA3 hE1)
  have hS4:=(setRow_other W1 gr (w.heap.size+1) (ints .i64 (lims ra)) (by omega)).trans (Qaa hS3 hE1)
  have he4:=QaA (Ext.trans he3 hE1) (show w.heap.size≤gr by omega) (ints .i64 (lims ra))
  have hgr:w.heap.size+1<gr:=by omega
  generalize W1.setRow gr (ints .i64 (lims ra))=V4 at *
  clear kg hR1 hE1 HA HE hA3 hS3 he3 hE3 lg ug sg hsz hlS HH1 HH2 HH3 HPA l3 hge hsz1
  go_wp2_with first
    | (go_at_call 85
       (with_reducible refine (HPR.out _).mono ?_)
       rintro e w5 ⟨rfl,hw5⟩
       have hr5:=Qaa hr4 hw5
       have hA5:=Qaa hA4 hw5
       have hS5:=Qaa hS4 hw5
       have he5:=Ext.trans he4 hw5
       clear hr4 hA4 hS4 he4 hw5)
    | (go_at_call 84
       (with_reducible refine (HM1.out _).mono ?_)
       rintro e w6 ⟨rfl,hw6⟩
       have hr6:=Qaa hr5 hw6
       have hA6:=Qaa hA5 hw6
       have hS6:=Qaa hS5 hw6
       have he6:=Ext.trans he5 hw6
       clear hr5 hA5 hS5 he5 hw6)
    | (go_at_call 95
       (with_reducible refine (HH4.out _).mono ?_)
       rintro e w7 ⟨rfl,hw7⟩
       have hr7:=Qaa hr6 hw7
       have hA7:=Qaa hA6 hw7
       have hS7:=Qaa hS6 hw7
       have he7:=Ext.trans he6 hw7
       clear hr6 hA6 hS6 he6 hw7)
    | (go_at_call 95
       (with_reducible refine (HH5.out _).mono ?_)
       rintro e w8 ⟨rfl,hw8⟩
       have hr8:=Qaa hr7 hw8
       have hA8:=Qaa hA7 hw8
       have hS8:=Qaa hS7 hw8
       have he8:=Ext.trans he7 hw8
       clear hr7 hA7 hS7 he7 hw8)
    | (go_at_call 83
       (with_reducible refine (HPI.out _).mono ?_)
       rintro e w9 ⟨rfl,hw9⟩
       have hr9:=Qaa hr8 hw9
       have hA9:=Qaa hA8 hw9
       have hS9:=Qaa hS8 hw9
       have he9:=Ext.trans he8 hw9
       clear hr8 hA8 hS8 he8 hw9)
    | (with_reducible show wpList _ _ _ ((⟨_,.store 58 _ _,_,_,_,_⟩:Oper)::_) _ _
       refine wpList_store_row rfl 58 _ _ rfl w9.heap.size (ints .i64 (lims ri)) rfl rfl 58 _ (heap_alloc_new _ _) (QaY _ lri) (by rw [Qad,lri]; rfl) (ints_one _ _) ?_
       have hi10:=setRow_heap _ _ _ (ints .i64 (lims ri)) _ _ (heap_alloc_new w9 (.cells #[.int .i64 0,.int .i64 0,.int .i64 0,.int .i64 0,.int .i64 0,.int .i64 0,.int .i64 0,.int .i64 0,.int .i64 0,.int .i64 0,.int .i64 0,.int .i64 0,.int .i64 0,.int .i64 0,.int .i64 0,.int .i64 0] 58))
       have hX:=QaA (QaG w9 (.cells #[.int .i64 0,.int .i64 0,.int .i64 0,.int .i64 0,.int .i64 0,.int .i64 0,.int .i64 0,.int .i64 0,.int .i64 0,.int .i64 0,.int .i64 0,.int .i64 0,.int .i64 0,.int .i64 0,.int .i64 0,.int .i64 0] 58)) (qR _) (ints .i64 (lims ri))
       have hgi:gr<w9.heap.size:=QaB hr9
       have hr10:=Qaa hr9 hX
       have hA10:=Qaa hA9 hX
       have hS10:=Qaa hS9 hX
       have he10:=Ext.trans he9 hX
       generalize (w9.alloc (.cells #[.int .i64 0,.int .i64 0,.int .i64 0,.int .i64 0,.int .i64 0,.int .i64 0,.int .i64 0,.int .i64 0,.int .i64 0,.int .i64 0,.int .i64 0,.int .i64 0,.int .i64 0,.int .i64 0,.int .i64 0,.int .i64 0] 58)).setRow w9.heap.size (ints .i64 (lims ri))=V at *
       generalize w9.heap.size=gi at *
       clear hX hr9 hA9 hS9 he9)
  clear HM1 HH4 HH5 HPI
  refine wp_loop_rounds 4 ?_
  rw [rounds_succ]
  by_cases hz:s0=a
  · have HQ:Hid (∀ W,(binOp .eql 58 (.agg (ints .i64 (lims s0))) (.agg (ints .i64 (lims a)))).run Tryd.prog W=.ok (.bool true) W):=Lib.hid (Qhd s0 a i_s0 ha true (decide_eq_true hz))
    have FIN:Hid (Qdb a=QaZ ra∧Qb3 a=true):=Lib.hid ⟨by rw [FN.out,if_pos hz],by rw [FB.out,decide_eq_true hz]; rfl⟩
    clear hz FN FB HMB HMI HMJ
    go_wp2
    have HA:Hid (∀ W,Ext V.drew W→W.heap[w.heap.size]? = some (.cells (ints .i64 (lims a)) 58)):=Lib.hid fun W hR=>Qaa (Qaa hA10 (Qae _)) hR
    have HR:Hid (∀ W,Ext V.drew W→W.heap[gr]? = some (.cells (ints .i64 (lims ra)) 58)):=Lib.hid fun W hR=>Qaa (Qaa hr10 (Qae _)) hR
    refine Qa1 Ext 5 47 [⟨none,[(5,none)]⟩,⟨none,[(5,none)]⟩,⟨none,[(30,some 0),(31,some 1)]⟩,⟨none,[(1,none)]⟩,⟨none,[(32,some 2),(33,some 3)]⟩] kj kj rfl Ext.refl Ext.trans (fun F r0 hr hF=>?_)
    have f5:r0 5=.pointer (some ⟨gr,0,none⟩):=by rw [hr]; rfl
    have f1:r0 1=.pointer (some ⟨w.heap.size,0,none⟩):=by rw [hr]; rfl
    clear hr
    simp only [List.take_succ_cons,List.take_zero]
    refine Qao (.agg (ints .i64 (lims ra))) (fun ρ W hR hh=>?_) ?_
    · clear hF
      have h5:ρ 5=.pointer (some ⟨gr,0,none⟩):=Eq.trans hh.1 f5
      exact Qa6 58 (.tmp _) rfl _ h5 58 _ (0,0) _ (HR.out W hR) Tryd.underlying58 rfl (QaY _ (Qa0 _))
    refine Qao (.agg (ints .i64 (lims ra))) (fun ρ W hR hh=>?_) ?_
    · clear hF
      have h5:ρ 5=.pointer (some ⟨gr,0,none⟩):=Eq.trans hh.1 f5
      exact Qa6 58 (.tmp _) rfl _ h5 58 _ (0,0) _ (HR.out W hR) Tryd.underlying58 rfl (QaY _ (Qa0 _))
    refine Qao (.agg (ints .i64 (lims s0))) (fun ρ W hR hh=>?_) ?_
    · clear hF
      have h30:ρ 30=.agg (ints .i64 (lims ra)):=hh.1
      have h31:ρ 31=.agg (ints .i64 (lims ra)):=hh.2.1
      simp only [guarded,QaM]
      go_simp
      exact ⟨Ext.refl _,(HM0.out _).mono fun _ _ h=>h.const⟩
    refine Qao (.agg (ints .i64 (lims a))) (fun ρ W hR hh=>?_) ?_
    · clear hF
      have h1:ρ 1=.pointer (some ⟨w.heap.size,0,none⟩):=Eq.trans hh.1 f1
      exact Qa6 58 (.tmp _) rfl _ h1 58 _ (0,0) _ (HA.out W hR) Tryd.underlying58 rfl (QaY _ (Qa0 _))
    refine Qao (.bool true) (fun ρ W hR hh=>?_) ?_
    · clear hF
      have h32:ρ 32=.agg (ints .i64 (lims s0)):=hh.1
      have h33:ρ 33=.agg (ints .i64 (lims a)):=hh.2.1
      exact QcH 58 _ (.tmp _) (.tmp _) rfl _ _ _ hgl h32 h33 (HQ.out W)
    simp only [List.cons_append,List.nil_append]
    refine hF.out fun W11 hR11=>?_
    simp only [List.take_succ_cons,List.take_zero,List.drop_succ_cons,List.drop_zero,fin,forall_eq,Act.put,List.setIfInBounds_toArray,List.set_cons_zero,List.set_cons_succ]
    clear hF
    have hr11:=Qaa (Qaa hr10 (Qae _)) hR11
    have hA11:=Qaa (Qaa hA10 (Qae _)) hR11
    have hS11:=Qaa (Qaa hS10 (Qae _)) hR11
    have hi11:=Qaa (Qaa hi10 (Qae _)) hR11
    have he11:=Ext.trans (Ext.trans he10 (Qae _)) hR11
    clear HA HR hR11 hr10 hA10 hS10 he10 hi10 f1 f5
    have gp:(ints .i64 (lims ra))[0]? = some (.int .i64 (limb ra 0)):=by rw [Qar _ _ _ (by rw [Qa0]; decide),QbZ _ _ (by decide)]
    have hcx:=Qa9 hr11 gp
    have lpar:=Qjp ra
    have lrg:=QaS ra 0
    have w2:(limb ra 0).tmod 2=limb ra 0%2:=Int.tmod_eq_emod_of_nonneg lrg.1
    have w3:IntKind.i64.wrap (limb ra 0%2)=limb ra 0%2:=IntWalk.i64_in _ (by omega)
    rw [lpar] at w2 w3
    generalize limb ra 0=l0 at *
    clear lpar lrg gp
    by_cases ho:ra%2=1
    · have hev:=QeX ra i_ra ho
      have HMP:Hid (∀ w,Calls Tryd.prog 84 #[.agg (ints .i64 (lims p)),.agg (ints .i64 (lims ra))] w (Ret w (.agg (ints .i64 (lims (QaZ ra)))))):=Lib.hid fun w=>by
        have:=minus p ra i_ra.1 (Int.le_of_lt i_ra.2) hpb w
        rw [←hev] at this
        exact this
      have lev:=Qa0 (QaZ ra)
      clear hev
      generalize QaZ ra=ev at *
      go_wp2
      have HR:Hid (∀ W,Ext W11.drew W→W.heap[gr]? = some (.cells (ints .i64 (lims ra)) 58)):=Lib.hid fun W hR=>Qaa (Qaa hr11 (Qae _)) hR
      refine Qa1 Ext 3 47 [⟨none,[]⟩,⟨none,[(5,none)]⟩,⟨none,[(39,some 0),(40,some 1)]⟩] kj kj rfl Ext.refl Ext.trans (fun F r0 hr hF=>?_)
      have f5:r0 5=.pointer (some ⟨gr,0,none⟩):=by rw [hr]; rfl
      clear hr
      simp only [List.take_succ_cons,List.take_zero]
      refine Qao (.agg (ints .i64 (lims p))) (fun ρ W hR hh=>?_) ?_
      · clear hF
        simp only [guarded,QaM]
        go_simp
        exact ⟨Ext.refl _,(HPR.out _).mono fun _ _ h=>h.const⟩
      refine Qao (.agg (ints .i64 (lims ra))) (fun ρ W hR hh=>?_) ?_
      · clear hF
        have h5:ρ 5=.pointer (some ⟨gr,0,none⟩):=Eq.trans hh.1 f5
        exact Qa6 58 (.tmp _) rfl _ h5 58 _ (0,0) _ (HR.out W hR) Tryd.underlying58 rfl (QaY _ (Qa0 _))
      refine Qao (.agg (ints .i64 (lims ev))) (fun ρ W hR hh=>?_) ?_
      · clear hF
        have h39:ρ 39=.agg (ints .i64 (lims p)):=hh.1
        have h40:ρ 40=.agg (ints .i64 (lims ra)):=hh.2.1
        simp only [guarded,QaM]
        go_simp
        exact ⟨Ext.refl _,(HMP.out _).mono fun _ _ h=>h.const⟩
      simp only [List.cons_append,List.nil_append]
      refine hF.out fun W20 hR20=>?_
      simp only [List.take_succ_cons,List.take_zero,List.drop_succ_cons,List.drop_zero,fin,forall_eq,Act.put,List.setIfInBounds_toArray,List.set_cons_zero,List.set_cons_succ]
      clear hF
      have hr20:=Qaa (Qaa hr11 (Qae _)) hR20
      have hS20:=Qaa (Qaa hS11 (Qae _)) hR20
      have he20:=Ext.trans (Ext.trans he11 (Qae _)) hR20
      clear HR hr11 hS11 he11 hA11 hi11 hR20 f5 HMP hcx
      refine wpList_store_row rfl 58 _ _ rfl gr (ints .i64 (lims ev)) rfl rfl 58 _ hr20 (QaY _ lev) (by rw [Qad,Qad,lev,lra]) (ints_one _ _) ?_
      have hr21:=setRow_heap _ _ _ (ints .i64 (lims ev)) _ _ hr20
      have hS21:=(setRow_other W20 gr (w.heap.size+1) (ints .i64 (lims ev)) (by omega)).trans hS20
      have he21:=QaA he20 (show w.heap.size≤gr by omega) (ints .i64 (lims ev))
      generalize W20.setRow gr (ints .i64 (lims ev))=V21 at *
      clear hr20 hS20 he20
      go_wp2_with first
        | (with_reducible show wpList _ _ _ ((⟨_,.load 58 _,_,_,_,_⟩:Oper)::_) _ _
           refine wpList_load_row rfl 58 _ rfl gr rfl 58 _ (0,0) _ hr21 Tryd.underlying58 rfl (QaY _ lev) ?_)
        | (with_reducible show wpList _ _ _ ((⟨_,.store 58 _ _,_,_,_,_⟩:Oper)::_) _ _
           refine wpList_store_row rfl 58 _ _ rfl (w.heap.size+1) _ rfl rfl 58 _ hS21 (QaY _ lev) (by rw [Qad,lev]; rfl) (ints_one _ _) ?_)
      exact bodyPost_ret (Qbg rfl _ _ (w.heap.size+1) 58 _ (0,0) _ rfl _ rfl (setRow_heap _ _ _ _ _ _ hS21) Tryd.underlying58 rfl (QaY _ lev)) rfl ⟨by rw [FIN.out.1,FIN.out.2]; rfl,QaA he21 (by omega) _⟩
    · have hev:QaZ ra=ra:=by unfold QaZ; rw [if_neg ho]
      have HEV:=Lib.hid hev
      clear hev
      have hpz:ra%2=0:=by omega
      go_wp2_with first
        | (with_reducible show wpList _ _ _ ((⟨_,.load 58 _,_,_,_,_⟩:Oper)::_) _ _
           refine wpList_load_row rfl 58 _ rfl gr rfl 58 _ (0,0) _ hr11 Tryd.underlying58 rfl (QaY _ lra) ?_)
        | (with_reducible show wpList _ _ _ ((⟨_,.store 58 _ _,_,_,_,_⟩:Oper)::_) _ _
           refine wpList_store_row rfl 58 _ _ rfl (w.heap.size+1) _ rfl rfl 58 _ hS11 (QaY _ lra) (by rw [Qad,lra]; rfl) (ints_one _ _) ?_)
      exact bodyPost_ret (Qbg rfl _ _ (w.heap.size+1) 58 _ (0,0) _ rfl _ rfl (setRow_heap _ _ _ _ _ _ hS11) Tryd.underlying58 rfl (QaY _ lra)) rfl ⟨by rw [FIN.out.1,FIN.out.2,HEV.out]; rfl,QaA he11 (by omega) _⟩
  · have HQ:Hid (∀ W,(binOp .eql 58 (.agg (ints .i64 (lims s0))) (.agg (ints .i64 (lims a)))).run Tryd.prog W=.ok (.bool false) W):=Lib.hid (Qhd s0 a i_s0 ha false (decide_eq_false hz))
    have HZ:=Lib.hid hz
    clear hz
    go_wp2
    have HA:Hid (∀ W,Ext V.drew W→W.heap[w.heap.size]? = some (.cells (ints .i64 (lims a)) 58)):=Lib.hid fun W hR=>Qaa (Qaa hA10 (Qae _)) hR
    have HR:Hid (∀ W,Ext V.drew W→W.heap[gr]? = some (.cells (ints .i64 (lims ra)) 58)):=Lib.hid fun W hR=>Qaa (Qaa hr10 (Qae _)) hR
    refine Qa1 Ext 5 47 [⟨none,[(5,none)]⟩,⟨none,[(5,none)]⟩,⟨none,[(30,some 0),(31,some 1)]⟩,⟨none,[(1,none)]⟩,⟨none,[(32,some 2),(33,some 3)]⟩] kj kj rfl Ext.refl Ext.trans (fun F r0 hr hF=>?_)
    have f5:r0 5=.pointer (some ⟨gr,0,none⟩):=by rw [hr]; rfl
    have f1:r0 1=.pointer (some ⟨w.heap.size,0,none⟩):=by rw [hr]; rfl
    clear hr
    simp only [List.take_succ_cons,List.take_zero]
    refine Qao (.agg (ints .i64 (lims ra))) (fun ρ W hR hh=>?_) ?_
    · clear hF
      have h5:ρ 5=.pointer (some ⟨gr,0,none⟩):=Eq.trans hh.1 f5
      exact Qa6 58 (.tmp _) rfl _ h5 58 _ (0,0) _ (HR.out W hR) Tryd.underlying58 rfl (QaY _ (Qa0 _))
    refine Qao (.agg (ints .i64 (lims ra))) (fun ρ W hR hh=>?_) ?_
    · clear hF
      have h5:ρ 5=.pointer (some ⟨gr,0,none⟩):=Eq.trans hh.1 f5
      exact Qa6 58 (.tmp _) rfl _ h5 58 _ (0,0) _ (HR.out W hR) Tryd.underlying58 rfl (QaY _ (Qa0 _))
    refine Qao (.agg (ints .i64 (lims s0))) (fun ρ W hR hh=>?_) ?_
    · clear hF
      have h30:ρ 30=.agg (ints .i64 (lims ra)):=hh.1
      have h31:ρ 31=.agg (ints .i64 (lims ra)):=hh.2.1
      simp only [guarded,QaM]
      go_simp
      exact ⟨Ext.refl _,(HM0.out _).mono fun _ _ h=>h.const⟩
    refine Qao (.agg (ints .i64 (lims a))) (fun ρ W hR hh=>?_) ?_
    · clear hF
      have h1:ρ 1=.pointer (some ⟨w.heap.size,0,none⟩):=Eq.trans hh.1 f1
      exact Qa6 58 (.tmp _) rfl _ h1 58 _ (0,0) _ (HA.out W hR) Tryd.underlying58 rfl (QaY _ (Qa0 _))
    refine Qao (.bool false) (fun ρ W hR hh=>?_) ?_
    · clear hF
      have h32:ρ 32=.agg (ints .i64 (lims s0)):=hh.1
      have h33:ρ 33=.agg (ints .i64 (lims a)):=hh.2.1
      exact QcH 58 _ (.tmp _) (.tmp _) rfl _ _ _ hgl h32 h33 (HQ.out W)
    simp only [List.cons_append,List.nil_append]
    refine hF.out fun W11 hR11=>?_
    simp only [List.take_succ_cons,List.take_zero,List.drop_succ_cons,List.drop_zero,fin,forall_eq,Act.put,List.setIfInBounds_toArray,List.set_cons_zero,List.set_cons_succ]
    clear hF
    have hr11:=Qaa (Qaa hr10 (Qae _)) hR11
    have hA11:=Qaa (Qaa hA10 (Qae _)) hR11
    have hS11:=Qaa (Qaa hS10 (Qae _)) hR11
    have hi11:=Qaa (Qaa hi10 (Qae _)) hR11
    have he11:=Ext.trans (Ext.trans he10 (Qae _)) hR11
    clear HA HR hR11 hr10 hA10 hS10 he10 hi10 f1 f5
    clear HQ HM0
    go_wp2_with first
      | (go_at_call 58
         (with_reducible refine (HMI.out _).mono ?_)
         rintro e w15 ⟨rfl,hw15⟩
         have hr15:=Qaa hr11 hw15
         have hA15:=Qaa hA11 hw15
         have hS15:=Qaa hS11 hw15
         have hi15:=Qaa hi11 hw15
         have he15:=Ext.trans he11 hw15
         clear hr11 hA11 hS11 hi11 he11 hw15 HMI)
      | (with_reducible show wpList _ _ _ ((⟨_,.load 58 _,_,_,_,_⟩:Oper)::_) _ _
         refine wpList_load_row rfl 58 _ rfl gr rfl 58 _ (0,0) _ hr11 Tryd.underlying58 rfl (QaY _ lra) ?_)
      | (with_reducible show wpList _ _ _ ((⟨_,.load 58 _,_,_,_,_⟩:Oper)::_) _ _
         refine wpList_load_row rfl 58 _ rfl gi rfl 58 _ (0,0) _ hi11 Tryd.underlying58 rfl (QaY _ lri) ?_)
      | (with_reducible show wpList _ _ _ ((⟨_,.store 58 _ _,_,_,_,_⟩:Oper)::_) _ _
         refine wpList_store_row rfl 58 _ _ rfl gr _ rfl rfl 58 _ hr15 (QaY _ lrb) (by rw [Qad,Qad,lra,lrb]) (ints_one _ _) ?_
         have hr12:=setRow_heap _ _ _ (ints .i64 (lims rb)) _ _ hr15
         have hA12:=(setRow_other _ gr w.heap.size (ints .i64 (lims rb)) (by omega)).trans hA15
         have hS12:=(setRow_other _ gr (w.heap.size+1) (ints .i64 (lims rb)) (by omega)).trans hS15
         have hi12:=(setRow_other _ gr gi (ints .i64 (lims rb)) (by omega)).trans hi15
         have he12:=QaA he15 (show w.heap.size≤gr by omega) (ints .i64 (lims rb))
         generalize w15.setRow gr (ints .i64 (lims rb))=V12 at *
         clear hr15 hA15 hS15 hi15 he15)
    rw [rounds_succ]
    by_cases hz:s1=a
    · have HQ:Hid (∀ W,(binOp .eql 58 (.agg (ints .i64 (lims s1))) (.agg (ints .i64 (lims a)))).run Tryd.prog W=.ok (.bool true) W):=Lib.hid (Qhd s1 a i_s1 ha true (decide_eq_true hz))
      have FIN:Hid (Qdb a=QaZ rb∧Qb3 a=true):=Lib.hid ⟨by rw [FN.out,if_neg HZ.out,if_pos hz],by rw [FB.out,decide_eq_true hz,Bool.or_true]⟩
      clear hz FN FB HZ HMJ
      go_wp2
      have HA:Hid (∀ W,Ext V12.drew W→W.heap[w.heap.size]? = some (.cells (ints .i64 (lims a)) 58)):=Lib.hid fun W hR=>Qaa (Qaa hA12 (Qae _)) hR
      have HR:Hid (∀ W,Ext V12.drew W→W.heap[gr]? = some (.cells (ints .i64 (lims rb)) 58)):=Lib.hid fun W hR=>Qaa (Qaa hr12 (Qae _)) hR
      refine Qa1 Ext 5 47 [⟨none,[(5,none)]⟩,⟨none,[(5,none)]⟩,⟨none,[(30,some 0),(31,some 1)]⟩,⟨none,[(1,none)]⟩,⟨none,[(32,some 2),(33,some 3)]⟩] kj kj rfl Ext.refl Ext.trans (fun F r0 hr hF=>?_)
      have f5:r0 5=.pointer (some ⟨gr,0,none⟩):=by rw [hr]; rfl
      have f1:r0 1=.pointer (some ⟨w.heap.size,0,none⟩):=by rw [hr]; rfl
      clear hr
      simp only [List.take_succ_cons,List.take_zero]
      refine Qao (.agg (ints .i64 (lims rb))) (fun ρ W hR hh=>?_) ?_
      · clear hF
        have h5:ρ 5=.pointer (some ⟨gr,0,none⟩):=Eq.trans hh.1 f5
        exact Qa6 58 (.tmp _) rfl _ h5 58 _ (0,0) _ (HR.out W hR) Tryd.underlying58 rfl (QaY _ (Qa0 _))
      refine Qao (.agg (ints .i64 (lims rb))) (fun ρ W hR hh=>?_) ?_
      · clear hF
        have h5:ρ 5=.pointer (some ⟨gr,0,none⟩):=Eq.trans hh.1 f5
        exact Qa6 58 (.tmp _) rfl _ h5 58 _ (0,0) _ (HR.out W hR) Tryd.underlying58 rfl (QaY _ (Qa0 _))
      refine Qao (.agg (ints .i64 (lims s1))) (fun ρ W hR hh=>?_) ?_
      · clear hF
        have h30:ρ 30=.agg (ints .i64 (lims rb)):=hh.1
        have h31:ρ 31=.agg (ints .i64 (lims rb)):=hh.2.1
        simp only [guarded,QaM]
        go_simp
        exact ⟨Ext.refl _,(HMB.out _).mono fun _ _ h=>h.const⟩
      refine Qao (.agg (ints .i64 (lims a))) (fun ρ W hR hh=>?_) ?_
      · clear hF
        have h1:ρ 1=.pointer (some ⟨w.heap.size,0,none⟩):=Eq.trans hh.1 f1
        exact Qa6 58 (.tmp _) rfl _ h1 58 _ (0,0) _ (HA.out W hR) Tryd.underlying58 rfl (QaY _ (Qa0 _))
      refine Qao (.bool true) (fun ρ W hR hh=>?_) ?_
      · clear hF
        have h32:ρ 32=.agg (ints .i64 (lims s1)):=hh.1
        have h33:ρ 33=.agg (ints .i64 (lims a)):=hh.2.1
        exact QcH 58 _ (.tmp _) (.tmp _) rfl _ _ _ hgl h32 h33 (HQ.out W)
      simp only [List.cons_append,List.nil_append]
      refine hF.out fun W13 hR13=>?_
      simp only [List.take_succ_cons,List.take_zero,List.drop_succ_cons,List.drop_zero,fin,forall_eq,Act.put,List.setIfInBounds_toArray,List.set_cons_zero,List.set_cons_succ]
      clear hF
      have hr13:=Qaa (Qaa hr12 (Qae _)) hR13
      have hA13:=Qaa (Qaa hA12 (Qae _)) hR13
      have hS13:=Qaa (Qaa hS12 (Qae _)) hR13
      have hi13:=Qaa (Qaa hi12 (Qae _)) hR13
      have he13:=Ext.trans (Ext.trans he12 (Qae _)) hR13
      clear HA HR hR13 hr12 hA12 hS12 he12 hi12 f1 f5
      have gp:(ints .i64 (lims rb))[0]? = some (.int .i64 (limb rb 0)):=by rw [Qar _ _ _ (by rw [Qa0]; decide),QbZ _ _ (by decide)]
      have hcx:=Qa9 hr13 gp
      have lpar:=Qjp rb
      have lrg:=QaS rb 0
      have w2:(limb rb 0).tmod 2=limb rb 0%2:=Int.tmod_eq_emod_of_nonneg lrg.1
      have w3:IntKind.i64.wrap (limb rb 0%2)=limb rb 0%2:=IntWalk.i64_in _ (by omega)
      rw [lpar] at w2 w3
      generalize limb rb 0=l0 at *
      clear lpar lrg gp
      by_cases ho:rb%2=1
      · have hev:=QeX rb i_rb ho
        have HMP:Hid (∀ w,Calls Tryd.prog 84 #[.agg (ints .i64 (lims p)),.agg (ints .i64 (lims rb))] w (Ret w (.agg (ints .i64 (lims (QaZ rb)))))):=Lib.hid fun w=>by
          have:=minus p rb i_rb.1 (Int.le_of_lt i_rb.2) hpb w
          rw [←hev] at this
          exact this
        have lev:=Qa0 (QaZ rb)
        clear hev
        generalize QaZ rb=ev at *
        go_wp2
        have HR:Hid (∀ W,Ext W13.drew W→W.heap[gr]? = some (.cells (ints .i64 (lims rb)) 58)):=Lib.hid fun W hR=>Qaa (Qaa hr13 (Qae _)) hR
        refine Qa1 Ext 3 47 [⟨none,[]⟩,⟨none,[(5,none)]⟩,⟨none,[(39,some 0),(40,some 1)]⟩] kj kj rfl Ext.refl Ext.trans (fun F r0 hr hF=>?_)
        have f5:r0 5=.pointer (some ⟨gr,0,none⟩):=by rw [hr]; rfl
        clear hr
        simp only [List.take_succ_cons,List.take_zero]
        refine Qao (.agg (ints .i64 (lims p))) (fun ρ W hR hh=>?_) ?_
        · clear hF
          simp only [guarded,QaM]
          go_simp
          exact ⟨Ext.refl _,(HPR.out _).mono fun _ _ h=>h.const⟩
        refine Qao (.agg (ints .i64 (lims rb))) (fun ρ W hR hh=>?_) ?_
        · clear hF
          have h5:ρ 5=.pointer (some ⟨gr,0,none⟩):=Eq.trans hh.1 f5
          exact Qa6 58 (.tmp _) rfl _ h5 58 _ (0,0) _ (HR.out W hR) Tryd.underlying58 rfl (QaY _ (Qa0 _))
        refine Qao (.agg (ints .i64 (lims ev))) (fun ρ W hR hh=>?_) ?_
        · clear hF
          have h39:ρ 39=.agg (ints .i64 (lims p)):=hh.1
          have h40:ρ 40=.agg (ints .i64 (lims rb)):=hh.2.1
          simp only [guarded,QaM]
          go_simp
          exact ⟨Ext.refl _,(HMP.out _).mono fun _ _ h=>h.const⟩
        simp only [List.cons_append,List.nil_append]
        refine hF.out fun W20 hR20=>?_
        simp only [List.take_succ_cons,List.take_zero,List.drop_succ_cons,List.drop_zero,fin,forall_eq,Act.put,List.setIfInBounds_toArray,List.set_cons_zero,List.set_cons_succ]
        clear hF
        have hr20:=Qaa (Qaa hr13 (Qae _)) hR20
        have hS20:=Qaa (Qaa hS13 (Qae _)) hR20
        have he20:=Ext.trans (Ext.trans he13 (Qae _)) hR20
        clear HR hr13 hS13 he13 hA13 hi13 hR20 f5 HMP hcx
        refine wpList_store_row rfl 58 _ _ rfl gr (ints .i64 (lims ev)) rfl rfl 58 _ hr20 (QaY _ lev) (by rw [Qad,Qad,lev,lrb]) (ints_one _ _) ?_
        have hr21:=setRow_heap _ _ _ (ints .i64 (lims ev)) _ _ hr20
        have hS21:=(setRow_other W20 gr (w.heap.size+1) (ints .i64 (lims ev)) (by omega)).trans hS20
        have he21:=QaA he20 (show w.heap.size≤gr by omega) (ints .i64 (lims ev))
        generalize W20.setRow gr (ints .i64 (lims ev))=V21 at *
        clear hr20 hS20 he20
        go_wp2_with first
          | (with_reducible show wpList _ _ _ ((⟨_,.load 58 _,_,_,_,_⟩:Oper)::_) _ _
             refine wpList_load_row rfl 58 _ rfl gr rfl 58 _ (0,0) _ hr21 Tryd.underlying58 rfl (QaY _ lev) ?_)
          | (with_reducible show wpList _ _ _ ((⟨_,.store 58 _ _,_,_,_,_⟩:Oper)::_) _ _
             refine wpList_store_row rfl 58 _ _ rfl (w.heap.size+1) _ rfl rfl 58 _ hS21 (QaY _ lev) (by rw [Qad,lev]; rfl) (ints_one _ _) ?_)
        exact bodyPost_ret (Qbg rfl _ _ (w.heap.size+1) 58 _ (0,0) _ rfl _ rfl (setRow_heap _ _ _ _ _ _ hS21) Tryd.underlying58 rfl (QaY _ lev)) rfl ⟨by rw [FIN.out.1,FIN.out.2]; rfl,QaA he21 (by omega) _⟩
      · have hev:QaZ rb=rb:=by unfold QaZ; rw [if_neg ho]
        have HEV:=Lib.hid hev
        clear hev
        have hpz:rb%2=0:=by omega
        go_wp2_with first
          | (with_reducible show wpList _ _ _ ((⟨_,.load 58 _,_,_,_,_⟩:Oper)::_) _ _
             refine wpList_load_row rfl 58 _ rfl gr rfl 58 _ (0,0) _ hr13 Tryd.underlying58 rfl (QaY _ lrb) ?_)
          | (with_reducible show wpList _ _ _ ((⟨_,.store 58 _ _,_,_,_,_⟩:Oper)::_) _ _
             refine wpList_store_row rfl 58 _ _ rfl (w.heap.size+1) _ rfl rfl 58 _ hS13 (QaY _ lrb) (by rw [Qad,lrb]; rfl) (ints_one _ _) ?_)
        exact bodyPost_ret (Qbg rfl _ _ (w.heap.size+1) 58 _ (0,0) _ rfl _ rfl (setRow_heap _ _ _ _ _ _ hS13) Tryd.underlying58 rfl (QaY _ lrb)) rfl ⟨by rw [FIN.out.1,FIN.out.2,HEV.out]; rfl,QaA he13 (by omega) _⟩
    · have HQ:Hid (∀ W,(binOp .eql 58 (.agg (ints .i64 (lims s1))) (.agg (ints .i64 (lims a)))).run Tryd.prog W=.ok (.bool false) W):=Lib.hid (Qhd s1 a i_s1 ha false (decide_eq_false hz))
      have FIN:Hid (Qdb a=0∧Qb3 a=false):=Lib.hid ⟨by rw [FN.out,if_neg HZ.out,if_neg hz],by rw [FB.out,decide_eq_false HZ.out,decide_eq_false hz]; rfl⟩
      clear hz FN FB HZ
      go_wp2
      have HA:Hid (∀ W,Ext V12.drew W→W.heap[w.heap.size]? = some (.cells (ints .i64 (lims a)) 58)):=Lib.hid fun W hR=>Qaa (Qaa hA12 (Qae _)) hR
      have HR:Hid (∀ W,Ext V12.drew W→W.heap[gr]? = some (.cells (ints .i64 (lims rb)) 58)):=Lib.hid fun W hR=>Qaa (Qaa hr12 (Qae _)) hR
      refine Qa1 Ext 5 47 [⟨none,[(5,none)]⟩,⟨none,[(5,none)]⟩,⟨none,[(30,some 0),(31,some 1)]⟩,⟨none,[(1,none)]⟩,⟨none,[(32,some 2),(33,some 3)]⟩] kj kj rfl Ext.refl Ext.trans (fun F r0 hr hF=>?_)
      have f5:r0 5=.pointer (some ⟨gr,0,none⟩):=by rw [hr]; rfl
      have f1:r0 1=.pointer (some ⟨w.heap.size,0,none⟩):=by rw [hr]; rfl
      clear hr
      simp only [List.take_succ_cons,List.take_zero]
      refine Qao (.agg (ints .i64 (lims rb))) (fun ρ W hR hh=>?_) ?_
      · clear hF
        have h5:ρ 5=.pointer (some ⟨gr,0,none⟩):=Eq.trans hh.1 f5
        exact Qa6 58 (.tmp _) rfl _ h5 58 _ (0,0) _ (HR.out W hR) Tryd.underlying58 rfl (QaY _ (Qa0 _))
      refine Qao (.agg (ints .i64 (lims rb))) (fun ρ W hR hh=>?_) ?_
      · clear hF
        have h5:ρ 5=.pointer (some ⟨gr,0,none⟩):=Eq.trans hh.1 f5
        exact Qa6 58 (.tmp _) rfl _ h5 58 _ (0,0) _ (HR.out W hR) Tryd.underlying58 rfl (QaY _ (Qa0 _))
      refine Qao (.agg (ints .i64 (lims s1))) (fun ρ W hR hh=>?_) ?_
      · clear hF
        have h30:ρ 30=.agg (ints .i64 (lims rb)):=hh.1
        have h31:ρ 31=.agg (ints .i64 (lims rb)):=hh.2.1
        simp only [guarded,QaM]
        go_simp
        exact ⟨Ext.refl _,(HMB.out _).mono fun _ _ h=>h.const⟩
      refine Qao (.agg (ints .i64 (lims a))) (fun ρ W hR hh=>?_) ?_
      · clear hF
        have h1:ρ 1=.pointer (some ⟨w.heap.size,0,none⟩):=Eq.trans hh.1 f1
        exact Qa6 58 (.tmp _) rfl _ h1 58 _ (0,0) _ (HA.out W hR) Tryd.underlying58 rfl (QaY _ (Qa0 _))
      refine Qao (.bool false) (fun ρ W hR hh=>?_) ?_
      · clear hF
        have h32:ρ 32=.agg (ints .i64 (lims s1)):=hh.1
        have h33:ρ 33=.agg (ints .i64 (lims a)):=hh.2.1
        exact QcH 58 _ (.tmp _) (.tmp _) rfl _ _ _ hgl h32 h33 (HQ.out W)
      simp only [List.cons_append,List.nil_append]
      refine hF.out fun W13 hR13=>?_
      simp only [List.take_succ_cons,List.take_zero,List.drop_succ_cons,List.drop_zero,fin,forall_eq,Act.put,List.setIfInBounds_toArray,List.set_cons_zero,List.set_cons_succ]
      clear hF
      have hr13:=Qaa (Qaa hr12 (Qae _)) hR13
      have hA13:=Qaa (Qaa hA12 (Qae _)) hR13
      have hS13:=Qaa (Qaa hS12 (Qae _)) hR13
      have hi13:=Qaa (Qaa hi12 (Qae _)) hR13
      have he13:=Ext.trans (Ext.trans he12 (Qae _)) hR13
      clear HA HR hR13 hr12 hA12 hS12 he12 hi12 f1 f5
      clear HQ HMB
      go_wp2_with first
        | (go_at_call 58
           (with_reducible refine (HMJ.out _).mono ?_)
           rintro e w15 ⟨rfl,hw15⟩
           have hr15:=Qaa hr13 hw15
           have hA15:=Qaa hA13 hw15
           have hS15:=Qaa hS13 hw15
           have hi15:=Qaa hi13 hw15
           have he15:=Ext.trans he13 hw15
           clear hr13 hA13 hS13 hi13 he13 hw15 HMJ)
        | (with_reducible show wpList _ _ _ ((⟨_,.load 58 _,_,_,_,_⟩:Oper)::_) _ _
           refine wpList_load_row rfl 58 _ rfl gr rfl 58 _ (0,0) _ hr13 Tryd.underlying58 rfl (QaY _ lrb) ?_)
        | (with_reducible show wpList _ _ _ ((⟨_,.load 58 _,_,_,_,_⟩:Oper)::_) _ _
           refine wpList_load_row rfl 58 _ rfl gi rfl 58 _ (0,0) _ hi13 Tryd.underlying58 rfl (QaY _ lri) ?_)
        | (with_reducible show wpList _ _ _ ((⟨_,.store 58 _ _,_,_,_,_⟩:Oper)::_) _ _
           refine wpList_store_row rfl 58 _ _ rfl gr _ rfl rfl 58 _ hr15 (QaY _ lrj) (by rw [Qad,Qad,lrb,lrj]) (ints_one _ _) ?_
           have hr14:=setRow_heap _ _ _ (ints .i64 (lims rj)) _ _ hr15
           have hA14:=(setRow_other _ gr w.heap.size (ints .i64 (lims rj)) (by omega)).trans hA15
           have hS14:=(setRow_other _ gr (w.heap.size+1) (ints .i64 (lims rj)) (by omega)).trans hS15
           have hi14:=(setRow_other _ gr gi (ints .i64 (lims rj)) (by omega)).trans hi15
           have he14:=QaA he15 (show w.heap.size≤gr by omega) (ints .i64 (lims rj))
           generalize w15.setRow gr (ints .i64 (lims rj))=V14 at *
           clear hr15 hA15 hS15 hi15 he15)
      rw [rounds_succ]
      have lz:=Qa0 0
      go_wp2_with first
        | (with_reducible show wpList _ _ _ ((⟨_,.store 58 _ _,_,_,_,_⟩:Oper)::_) _ _
           refine wpList_store_row rfl 58 _ _ rfl (w.heap.size+1) (ints .i64 (List.replicate 16 0)) rfl rfl 58 _ hS14 (QaY _ rfl) rfl (ints_one _ _) ?_)
      exact bodyPost_ret (Qbg rfl _ _ (w.heap.size+1) 58 _ (0,0) _ rfl _ rfl (setRow_heap _ _ _ _ _ _ hS14) Tryd.underlying58 rfl (QaY _ rfl)) rfl ⟨by rw [FIN.out.1,FIN.out.2,Qlm]; rfl,QaA he14 (by omega) _⟩
end Go.Proofs.YtdoadngmgmdlbaaDoor.Field
end
section
namespace Go.Proofs.YtdoadngmgmdlbaaDoor.Field
open Go Go.RowKit Go.Shelf
open Rely
attribute [local go_sem] Oper.semAt_some
def encB (b : Bool):Value:=.int .i64 (if b then 1 else 0)
def bitB (es : List Int) (i:Nat):Bool:=QcV es i==1
def bitsB (es : List Int):List Bool:=(List.range 256).map fun j=>bitB es (255-j)
theorem Qj2 (es : List Int) (i:Nat):encB (bitB es i)=.int .i64 (QcV es i):=by
  unfold encB bitB
  have:=QfY es i
  by_cases h:QcV es i=1
  · simp [h]
  · have h0:QcV es i=0:=by omega
    simp [h0]
theorem QeJ (es : List Int):(bitsB es).length=256:=by simp [bitsB]
theorem Qfc (es : List Int) (j:Nat) (hj:j<256):(bitsB es).take (256-j)=(bitsB es).take (256-(j+1))++[bitB es j]:=by
  have e:256-j=(256-(j+1))+1:=by omega
  rw [e,List.take_add_one]
  congr 1
  have h:256-(j+1)<256:=by omega
  simp only [bitsB,List.getElem?_map,List.getElem?_range h,Option.map_some,Option.toList_some]
  rw [show 255-(256-(j+1))=j by omega]
set_option maxHeartbeats 2000000 in
theorem Qfj (m : Nat) (hm:1≤m) (kb:Nat) (es:List Int) (hel:es.length=32) (hb:Qaj es) (w:World) (hkb:w.heap[kb]? = some (.cells (ints .u8 es) 23)) :
    SeqStopsK Fence.wide m Tryd.prog 82 #[.pointer (some ⟨kb,0,none⟩)] (fun x:Bool=>#[encB x]) (Same kb) (fun ys=>ys=bitsB es) (fun pre=>pre <+: bitsB es) 256 w:=fun l J Jx W hW hJ hJx hY h0=>by
  refine callsIn_of_wp Tryd.func82 rfl trivial ?_ rfl
  simp only [Tryd.ntmps82,List.size_toArray,List.length_cons,List.length_nil,Nat.reduceAdd,Nat.reduceSub,Array.replicate_succ,Array.replicate_zero,List.push_toArray,List.append_toArray,List.nil_append,List.cons_append]
  have hkW:W.heap[kb]? = some (.cells (ints .u8 es) 23):=(hW.block kb (QaB hkb)).trans hkb
  gi_wp2
  gi_loopw [3] (fun i wr=>∃ k:Nat,k≤256∧i=.int .i64 ((k:Int)-1)∧J ((bitsB es).take (256-k)) wr∧Same kb W wr) (fun i _=>(intOf i+1).toNat)
  case atStart=>exact ⟨256,by omega,rfl,by simpa using h0,Same.refl _ _⟩
  case round =>
    obtain ⟨k,hk256,rfl,hJs,hB⟩:=hrel
    rcases k with _ | j
    · gi_wp2
      go_end0
      exact ⟨⟨_,rfl⟩,.inl ⟨_,rfl,by rwa [List.take_of_length_le (by rw [QeJ]; omega)] at hJs⟩⟩
    · have hj:j<256:=by omega
      rw [show ((j+1:Nat):Int)-1=(j:Int) by omega]
      have hkw:wr.heap[kb]? = some (.cells (ints .u8 es) 23):=hB.trans hkW
      have hX:(ints .u8 es)[j/8]? = some (.int .u8 (nth es (j/8))):=Qar _ _ _ (by omega)
      have hcx:=Qa9 hkw hX
      obtain ⟨fn,tmps,assign,body,hy,hR⟩:=hY _ (bitB es j) wr hJs (by rw [List.length_take,QeJ]; omega)
      have hT:=Lib.hid (Qfc es j hj)
      have b1:=hb.nth (j/8)
      rw [Qj2,show QcV es j=nth es (j/8)/2^(j%8)%2 from rfl] at hy
      generalize bitB es j=bt at *
      generalize nth es (j/8)=v at *
      have q0:(0:Int)≤(j:Int):=by omega
      have q1:(j:Int)/8<32:=by omega
      have q2:IntKind.i64.wrap ((j:Int)/8)=(j:Int)/8:=IntWalk.i64_in _ (by omega)
      have qm:(j:Int).tmod 8=(j:Int)%8:=Int.tmod_eq_emod_of_nonneg (by omega)
      have q3:IntKind.i64.wrap ((j:Int)%8)=(j:Int)%8:=IntWalk.i64_in _ (by omega)
      have q4:(0:Int)≤(j:Int)/8:=by omega
      have q5:((j:Int)/8).toNat=j/8:=by omega
      have q6:((j:Int)%8).toNat=j%8:=by omega
      have q7:(0:Int)≤(j:Int)%8:=by omega
      have q8:(j:Int)%8<8:=by omega
      have hp:(1:Int)≤2^(j%8):=by
        have:(0:Int)<2^(j%8):=Int.pow_pos (by decide)
        omega
      have d1:0≤v/2^(j%8):=Int.ediv_nonneg b1.1 (by omega)
      have d2:v/2^(j%8)≤v:=Int.ediv_le_self _ b1.1
      have w1:IntKind.i64.wrap (v/2^(j%8))=v/2^(j%8):=IntWalk.i64_in _ (by omega)
      have w2:=QiK (v/2^(j%8)) (by omega)
      gi_wp2
      refine hR.mono ?_
      rintro e W3 (⟨rfl,hJ3,hk3⟩ | ⟨rfl,hJx3⟩)
      · gi_wp2
        go_roundw
        case rel=>exact ⟨j,by omega,rfl,by rw [hT.out]; exact hJ3,hk3.trans hB⟩
        case measure=>simp [intOf]
      · gi_wp2
        refine bodyPost_ret (results_none rfl _ _ _) rfl ?_
        exact ⟨⟨_,rfl⟩,.inr ⟨_,by rw [←hT.out]; exact List.take_prefix _ _,hJx3⟩⟩
end Go.Proofs.YtdoadngmgmdlbaaDoor.Field
end
end
section
namespace Go.Proofs.YtdoadngmgmdlbaaDoor.Field
open Go Go.RowKit
open Rely Auto
theorem num_isN (n : Nat) (h:n<1000000:=by decide):isN (n:Int):=by unfold isN p; omega
theorem Qq8 {n : Int} (h:isN n):0≤n∧n≤p:=⟨h.1,Int.le_of_lt h.2⟩
theorem zlen : (List.replicate 32 (0:Int)).length=32:=by decide
theorem QdC (n : Int) (h:0≤n∧n<1000000) (w:World):Calls Tryd.prog 67 #[.int .i64 n] w (Ret w (num n)):=by
  have:=Qf3 n (by omega) w
  rw [show n%p=n from Int.emod_eq_of_lt h.1 (by unfold p; omega)] at this
  exact this
theorem Qlx (x y:Int) (hx:isN x) (hy:isN y) (w:World):Calls Tryd.prog 73 #[lnum x,lnum y] w (Ret w (lnum ((x+y)%p))):=lAdd x y (QbR hx) (QbR hy) w
theorem Qki (x y:Int) (hx:isN x) (hy:isN y) (w:World):Calls Tryd.prog 76 #[lnum x,lnum y] w (Ret w (lnum ((x-y)%p))):=lSub x y (QbR hx) (Qq8 hy) w
theorem Qdz (x y:Int) (hx:isN x) (hy:isN y) (w:World):Calls Tryd.prog 58 #[lnum x,lnum y] w (Ret w (lnum (x*y%p))):=lMul x y (QbR hx) (QbR hy) w
end Go.Proofs.YtdoadngmgmdlbaaDoor.Field
end
section
namespace Go.Proofs.YtdoadngmgmdlbaaDoor.Field
open Go Go.RowKit
open Rely Auto
theorem laidVars_at {P : Program} {w:World}:∀ (laid:List (String×DataW Unit)) (ps:List MemPlace) (n:String) (d:DataW Unit),DataW.LaidVars P w laid ps→(n,d)∈laid →
    ∃ g t cs fuel p,P.globalNamed n=some g∧(P.globals[g]?).map (·.type)=some t∧w.var? P n=some cs∧DataW.trod (fun _=>()) P w 0 (fun _=>true) false fuel t cs.toList=some (d,p)∧∀ x∈MemPlace.row ⟨g,0,none⟩ cs.size,x∈ps
  | [],_,_,_,_,h=>by cases h
  | (n0,d0)::r,ps,n,d,⟨g,t,cs,fuel,p,q,h1,h2,h3,h4,h5,h6⟩,h=>by
    subst h6
    rcases List.mem_cons.1 h with h | h
    · cases h
      exact ⟨g,t,cs,fuel,p,h1,h2,h3,h4,fun x hx=>List.mem_append_left _ (List.mem_append_left _ hx)⟩
    · obtain ⟨g',t',cs',fuel',p',a,b,c,e,f⟩:=laidVars_at r q n d h5 h
      exact ⟨g',t',cs',fuel',p',a,b,c,e,fun x hx=>List.mem_append_right _ (f x hx)⟩
theorem laid_row {P : Program} {w:World} {laid:List (String×DataW Unit)} {n:String} {k:IntKind} {zs:List Int} {g:Nat} {t e:TypeId} {m:Nat} (h:laidMet P laid w) (hm:(n,Lib.tabData k zs)∈laid)
    (hg:P.globalNamed n=some g) (hty:(P.globals[g]?).map (·.type)=some t) (ht:P.underlying t=some (.array m e)) (he:P.underlying e=some (.int k)) (hce:P.cellsOf e=1) (hct:P.cellsOf t=m) (h0:0<zs.length) :
    ∃ t,w.heap[g]? = some (.cells (ints k zs) t):=by
  obtain ⟨ps,hL,-,hC⟩:=h
  obtain ⟨g',t',cs,fuel,p,hg',ht',hvar,hd,hin⟩:=laidVars_at _ _ _ _ hL hm
  obtain rfl:=Option.some.inj (hg.symm.trans hg')
  obtain rfl:=Option.some.inj (hty.symm.trans ht')
  have hcs:=Lib.cells_of_tab ht he hce hct hd
  have hsz:0<cs.size:=by rw [←Array.length_toList,hcs,List.length_map]; exact h0
  obtain ⟨⟨c,t2,hc⟩,-⟩:=hC g 0 (hin _ (List.mem_map.2 ⟨0,List.mem_range.2 hsz,rfl⟩))
  unfold World.var? at hvar
  rw [hg] at hvar
  simp only [Option.bind_some,hc,Option.some.injEq] at hvar
  subst hvar
  refine ⟨t2,hc.trans ?_⟩
  rw [show c=ints k zs from by rw [ints,←hcs]]
def Qb6 : List Int:=[163,120,89,19,202,77,235,117,171,216,65,65,77,10,112,0,152,232,121,119,121,64,199,140,115,254,111,43,238,108,3,82]
def QbN : List Int:=[26,213,37,143,96,45,86,201,178,167,37,149,96,199,44,105,92,220,214,253,49,226,164,192,254,83,110,205,211,54,105,33]
def QbM : List Int:=[88,102,102,102,102,102,102,102,102,102,102,102,102,102,102,102,102,102,102,102,102,102,102,102,102,102,102,102,102,102,102,102]
def dN : Int:=37095705934669439343138083508754565189542113879843219016388785533085940283555
def bxN : Int:=15112221349535400772501151409588531511454012693041857206046113283949847762202
def byN : Int:=46316835694926478169428394003475163141307993866256225615783033603165251855960
theorem Qej : isN dN:=by unfold isN; decide
theorem QlT : isN bxN:=by unfold isN; decide
theorem QlS : isN byN:=by unfold isN; decide
theorem Qq7 : QfM Qb6=dN:=by decide +kernel
theorem key_bx : QfM QbN=bxN:=by decide +kernel
theorem key_by : QfM QbM=byN:=by decide +kernel
theorem Qg1 : Qaj Qb6:=by unfold Qaj; decide
theorem baseX_bytes : Qaj QbN:=by unfold Qaj; decide
theorem baseY_bytes : Qaj QbM:=by unfold Qaj; decide
theorem QfO (w : World):Calls Tryd.prog 44 #[.agg (ints .u8 Qb6)] w (Ret w (num dN)):=by rw [←Qq7]; exact Qno Qb6 rfl Qg1 w
theorem from_bx (w : World):Calls Tryd.prog 44 #[.agg (ints .u8 QbN)] w (Ret w (num bxN)):=by rw [←key_bx]; exact Qno QbN rfl baseX_bytes w
theorem from_by (w : World):Calls Tryd.prog 44 #[.agg (ints .u8 QbM)] w (Ret w (num byN)):=by rw [←key_by]; exact Qno QbM rfl baseY_bytes w
theorem Qpj (w : World):Calls Tryd.prog 60 #[.agg (ints .u8 Qb6)] w (Ret w (lnum dN)):=by rw [←Qq7]; exact lFrom Qb6 rfl Qg1 w
end Go.Proofs.YtdoadngmgmdlbaaDoor.Field
end
section
namespace Go.Proofs.YtdoadngmgmdlbaaDoor.Field
open Go Go.RowKit
open Rely Auto
theorem run_index_il {P : Program} {ρ:Operand→Value} {o:Oper} {w:World} (t:TypeId) (x y:Operand) (ki k:IntKind) (xs:List Int) (i n:Nat) (e:TypeId) (v:Int) (ho:o.op=.index t x y) (hx:ρ x=.agg (ints k xs)) (hy:ρ y=.int ki (i:Int))
    (ht:P.underlying t=some (.array n e)) (he:P.underlying e=some (.int k)) (hq:(P.info? e).map (·.size)=some 1) (hl:xs.length=n) (hi:i<n) (hv:nth xs i=v):(execOp ρ o).run P w=.ok (.value (.int k v)) w:=by
  have h:=run_index_ints (P:=P) w (ki:=ki) ht he hq xs hl i hi
  rw [hv] at h
  unfold execOp
  simp only [ho,hx,hy,Sem.run_bind,h,Result.andThen_ok,Sem.run_pure]
theorem QmU (a b:Int) (ha:isN a) (hb:isN b) (W:World):(Op.equalIn 9999 47 (.agg (numA a)) (.agg (numA b))).run Tryd.prog W=.ok (a==b) W:=by
  obtain ⟨x0,x1,x2,x3,wx0,wx1,wx2,wx3,ex,eX⟩:=Qcn a ha
  obtain ⟨y0,y1,y2,y3,wy0,wy1,wy2,wy3,ey,eY⟩:=Qcn b hb
  rw [QoT] at eX eY
  unfold words at eX eY
  rw [eX,eY]
  have h:=Qdj (P:=Tryd.prog) W 9997 Tryd.underlying47 Tryd.underlying46 kj [x0,x1,x2,x3] [y0,y1,y2,y3] rfl rfl
  have e:decide ([x0,x1,x2,x3]=[y0,y1,y2,y3])=(a==b):=by
    have:[x0,x1,x2,x3]=[y0,y1,y2,y3]↔a=b:=by
      simp only [List.cons.injEq,and_true]
      unfold isW val at *
      constructor <;> omega
    rw [Bool.eq_iff_iff]
    simp only [decide_eq_true_eq,beq_iff_eq,this]
  rw [e] at h
  exact h
theorem Qle (a b:Int) (r:Bool) (ha:isN a) (hb:isN b) (h:(a==b)=r) (W:World):(binOp .eql 49 (.agg (numA a)) (.agg (numA b))).run Tryd.prog W=.ok (.bool r) W:=by
  have q:=QmU a b ha hb W
  have hp:∀ n,(Go.part 47 (numA n) 0).run Tryd.prog W=.ok (.agg (numA n)) W:=fun n=>kj
  rw [run_eql_struct,run_equalIn_struct W 9999 _ _ _ kj kj]
  obtain ⟨fd, hl, h1, h2, h3⟩ : ∃ fd, (Tryd.prog.fieldsOf 49).toList = [fd] ∧ fd.type = 47 ∧ fd.offset = 0 ∧ (fd.name != "_") = true := by
    cases hL:(Tryd.prog.fieldsOf 49).toList with
    | nil=>exact absurd (congrArg List.length hL) (by rw [show (Tryd.prog.fieldsOf 49).toList.length=1 from by kernel_rfl]; decide)
    | cons fd r =>
      have e1 : (Tryd.prog.fieldsOf 49).toList.map (fun f => (f.type, f.offset, f.name != "_")) = [(47, 0, true)] := kj
      rw [hL] at e1
      simp only [List.map_cons,List.cons.injEq,Prod.mk.injEq,List.map_eq_nil_iff] at e1
      obtain ⟨⟨a1,a2,a3⟩,rfl⟩:=e1
      exact ⟨fd,rfl,a1,a2,a3⟩
  have h4 : fd.name ≠ "_" := by simpa using h3
  rw [hl,Op.eqFields,if_pos h4]
  simp only [Sem.run_bind,h1,h2,hp,Result.andThen_ok,q]
  rw [h]
  cases r <;> simp [Op.eqFields]
theorem key_eql (xs ys:List Int) (r:Bool) (hx:xs.length=32) (hy:ys.length=32) (h:decide (xs=ys)=r) (W:World):(binOp .eql 23 (.agg (ints .u8 xs)) (.agg (ints .u8 ys))).run Tryd.prog W=.ok (.bool r) W:=by
  rw [Qhc W Tryd.underlying23 Tryd.underlying5 kj xs ys hx hy,h]
theorem key_neq (xs ys:List Int) (r:Bool) (hx:xs.length=32) (hy:ys.length=32) (h:decide (xs=ys)=r) (W:World):(binOp .neq 23 (.agg (ints .u8 xs)) (.agg (ints .u8 ys))).run Tryd.prog W=.ok (.bool (!r)) W:=by
  rw [QmY W Tryd.underlying23 Tryd.underlying5 kj xs ys hx hy,h]
theorem Qjl (x y:Int) (r:Bool) (h:decide (lims x=lims y)=r) (W:World):(binOp .eql 58 (.agg (ints .i64 (lims x))) (.agg (ints .i64 (lims y)))).run Tryd.prog W=.ok (.bool r) W:=by
  rw [Qhc W Tryd.underlying58 Tryd.underlying3 kj _ _ (Qa0 x) (Qa0 y),h]
theorem QnN (a : Int) (r:Bool) (ha:isN a) (h:(a%2==1)=r) (w:World):Calls Tryd.prog 51 #[num a] w (Ret w (.bool r)):=by
  have:=odd a ha w
  rw [h] at this
  exact this
theorem Qrl (v : Int) (h:0≤v∧v<128):bits .or .u8 v 128=v+128:=by
  obtain ⟨n,rfl⟩:=Int.eq_ofNat_of_zero_le h.1
  have hn:n<128:=by omega
  have:∀ m:Fin 128,bits .or .u8 ((m.val:Nat):Int) 128=((m.val:Nat):Int)+128:=by decide +kernel
  exact this ⟨n,hn⟩
theorem Qgb (v : Int) (h:0≤v∧v≤255):bits .and .u8 v 127=v%128:=by
  obtain ⟨n,rfl⟩:=Int.eq_ofNat_of_zero_le h.1
  have hn:n<256:=by omega
  have:∀ m:Fin 256,bits .and .u8 ((m.val:Nat):Int) 127=((m.val:Nat):Int)%128:=by decide +kernel
  exact this ⟨n,hn⟩
theorem QqT (v : Int) (h:0≤v∧v<128):IntKind.u8.wrap (v+128)=v+128:=by
  obtain ⟨n,rfl⟩:=Int.eq_ofNat_of_zero_le h.1
  have hn:n<128:=by omega
  have:∀ m:Fin 128,IntKind.u8.wrap (((m.val:Nat):Int)+128)=((m.val:Nat):Int)+128:=by decide +kernel
  exact this ⟨n,hn⟩
theorem Qek (v : Int) (h:0≤v∧v≤255):Int.tmod v 128=v%128:=Int.tmod_eq_emod_of_nonneg h.1
theorem QdJ {n : Int} (h:isN n):0≤nth (Qaq n) 31∧nth (Qaq n) 31<128:=by
  have e:nth (Qaq n) 31=Qax n 31:=by unfold nth Qaq part; simp
  rw [e]
  obtain ⟨h0,h1⟩:=h
  unfold Qax
  unfold p at h1
  simp only [Int.reducePow]
  omega
theorem bytes_len (n : Int):(Qaq n).length=32:=by unfold Qaq part; simp
theorem QhL (n : Int):Int.tmod (nth (lims n) 0) 2=n%2:=by
  have e:nth (lims n) 0=n%65536:=by
    unfold nth lims
    simp [limb]
  rw [e,Int.tmod_eq_emod_of_nonneg (by omega)]
  omega
end Go.Proofs.YtdoadngmgmdlbaaDoor.Field
end
section
namespace Go.Proofs.YtdoadngmgmdlbaaDoor.Field
open Go Go.RowKit
open Rely Auto
theorem QdV (a : Int) (k:Nat):a%256^(k+1)=a%256^k+256^k*(a/256^k%256):=by
  have hB:(0:Int)<256^k:=Int.pow_pos (by decide)
  rw [Int.pow_succ]
  generalize (256:Int)^k=B at hB
  have e1:=Int.mul_ediv_add_emod a B
  have e2:=Int.mul_ediv_add_emod (a/B) 256
  have r1:=Int.emod_nonneg a (Int.ne_of_gt hB)
  have r2:=Int.emod_lt_of_pos a hB
  have s1:=Int.emod_nonneg (a/B) (show (256:Int)≠0 by decide)
  have s2:=Int.emod_lt_of_pos (a/B) (show (0:Int)<256 by decide)
  generalize a%B=r at *
  generalize a/B%256=s at *
  generalize a/B/256=t at *
  generalize a/B=q at *
  have e3:a=(r+B*s)+B*256*t:=by rw [←e1,←e2]; grind
  have m1:B*s≤B*255:=Int.mul_le_mul_of_nonneg_left (by omega) (by omega)
  have m2:0≤B*s:=Int.mul_nonneg (by omega) s1
  rw [e3,Int.add_mul_emod_self_left]
  exact Int.emod_eq_of_lt (by omega) (by omega)
theorem nth_set_self (xs : List Int) (i:Nat) (v:Int) (h:i<xs.length):nth (xs.set i v) i=v:=by unfold nth; simp [h]
def bval (bs : List Bool):Nat:=bs.foldl (fun n b=>2*n+if b then 1 else 0) 0
theorem QgW (n : Int):∀ k,k≤32→leAt (Qaq n) 0 k=n%256^k
  | 0,_=>by simp [leAt,Int.emod_one]
  | k+1,hk=>by
    have q:nth (Qaq n) (0+k)=Qax n k:=by unfold nth Qaq part; simp [show k<32 by omega]
    rw [leAt,QgW n k (by omega),q,QdV]
    unfold Qax
    rw [Int.mul_comm (n/256^k%256)]
theorem Qgy (es : List Int) (w:World):Calls Tryd.prog 46 #[.agg (ints .u8 es)] w fun e w'=>∃ v,e=.returned v∧Ext w w'∧∃ kb,w.heap.size≤kb∧v=.func (.func 82) #[] #[.pointer (some ⟨kb,0,none⟩)]∧w'.heap[kb]? = some (.cells (ints .u8 es) 23):=by
  have hmf:∀ (fn:Fn) (first cap:Array Value) (w:World),(Instr.makeFunc fn first cap).run Tryd.prog w=.ok (.func fn first cap) w:=fun _ _ _ _=>rfl
  go_enter Tryd.func46,Tryd.ntmps46
  go_wp2_with fail
  exact bodyPost_ret (results_tmp rfl _ _ _) rfl ⟨_,rfl,QaG _ _,w.heap.size,qR _,rfl,heap_alloc_new _ _⟩
def numB (es : List Int):Nat:=(leAt es 0 32).toNat
theorem QoY (m : Int) (r:Nat) (hr:r<16):m%65536/2^r%2=m/2^r%2:=by
  rcases (by omega:r=0∨r=1∨r=2∨r=3∨r=4∨r=5∨r=6∨r=7∨r=8∨r=9∨r=10∨r=11∨r=12∨r=13∨r=14∨r=15) with rfl | rfl | rfl | rfl | rfl | rfl | rfl | rfl | rfl | rfl | rfl | rfl | rfl | rfl | rfl | rfl
  all_goals
    simp only [Int.reducePow]
    omega
theorem Qp4 (es : List Int) (hb:Qaj es) (i:Nat) (hi:i<256):QcV es i=leAt es 0 32/2^i%2:=by
  rw [←Qpi es hb i hi]
  unfold lbit limb
  rw [QoY _ _ (by omega),Int.ediv_ediv_of_nonneg (Int.pow_nonneg (by decide)),show (65536:Int)=2^16 by decide,←Int.pow_mul,←Int.pow_add,show 16*(i/16)+i%16=i by omega]
theorem Qn7 (es : List Int) (hb:Qaj es) (i:Nat) (hi:i<256):(if bitB es i=true then 1 else 0)=numB es/2^i%2:=by
  have h:=Qp4 es hb i hi
  have hr:=Qjq es hb
  have e:((numB es:Nat):Int)=leAt es 0 32:=by unfold numB; omega
  rw [←e] at h
  have h2:QcV es i=((numB es/2^i%2:Nat):Int):=by
    rw [h]; rw [Int.natCast_emod,Int.natCast_ediv,Int.natCast_pow]; rfl
  unfold bitB
  rw [h2]
  have:numB es/2^i%2<2:=Nat.mod_lt _ (by decide)
  rcases (by omega:numB es/2^i%2=0∨numB es/2^i%2=1) with q | q <;> rw [q] <;> rfl
theorem Qig (bs : List Bool) (b:Bool):bval (bs++[b])=2*bval bs+if b then 1 else 0:=by unfold bval; rw [List.foldl_append]; rfl
theorem Qif (es : List Int) (hb:Qaj es):∀ k,k≤256→bval ((bitsB es).take k)=numB es/2^(256-k)
  | 0,_=>by
    have hr:=Qjq es hb
    have:numB es<2^256:=by
      have:(2:Int)^256=big:=by decide
      unfold numB
      have e2:((2^256:Nat):Int)=big:=by rw [←this]; rfl
      omega
    rw [Nat.sub_zero,Nat.div_eq_of_lt this]
    rfl
  | k+1,hk=>by
    have e:=Qfc es (255-k) (by omega)
    rw [show 256-(255-k)=k+1 by omega,show 256-(255-k+1)=k by omega] at e
    rw [e,Qig,Qif es hb k (by omega),Qn7 es hb _ (by omega),show 256-k=(255-k)+1 by omega,show 256-(k+1)=255-k by omega,Nat.pow_succ,←Nat.div_div_eq_div_mul]
    omega
theorem QfV (es : List Int) (hb:Qaj es):bval (bitsB es)=numB es:=by
  have h:=Qif es hb 256 (qR _)
  rw [List.take_of_length_le (by rw [QeJ]; omega)] at h
  rw [h]
  simp
theorem QqB {n : Int} (h:0≤n∧n≤255):IntKind.i64.wrap n=n:=IntWalk.i64_in _ (by omega)
theorem QnE (n : Int):IntKind.u8.wrap n=n%256:=by rw [IntKind.wrap_u8]
theorem Qbc (n : Int):Qaj (Qaq n):=fun v hv=>by
  unfold Qaq part at hv
  simp only [List.mem_map,List.mem_range] at hv
  obtain ⟨i,hi,rfl⟩:=hv
  rw [if_pos hi]
  unfold Qax
  omega
end Go.Proofs.YtdoadngmgmdlbaaDoor.Field
end
section
namespace Go.Proofs.YtdoadngmgmdlbaaDoor.Field
open Go Go.RowKit
open Rely Auto
abbrev Qca : Array Value := ints .u64 [6346243789798364141, 1503914060200516822, 0, 1152921504606846976]
theorem Qqk (m0 m1 m2 m3 y0 y1 y2 y3 v0 v1 v2 v3 ca0 ca1 ca2 ca3 u0 u1 u2 u3 d0 d1 d2:Int)
    (r0:∀ W,(callFunc 88 #[.int .u64 m0,.int .u64 y0,.int .u64 0]).run Tryd.prog W=.ok (.value (.tuple #[.int .u64 v0,.int .u64 ca0])) W)
    (s0:∀ W,(callFunc 89 #[.int .u64 v0,.int .u64 6346243789798364141,.int .u64 0]).run Tryd.prog W=.ok (.value (.tuple #[.int .u64 u0,.int .u64 d0])) W)
    (r1:∀ W,(callFunc 88 #[.int .u64 m1,.int .u64 y1,.int .u64 ca0]).run Tryd.prog W=.ok (.value (.tuple #[.int .u64 v1,.int .u64 ca1])) W)
    (s1:∀ W,(callFunc 89 #[.int .u64 v1,.int .u64 1503914060200516822,.int .u64 d0]).run Tryd.prog W=.ok (.value (.tuple #[.int .u64 u1,.int .u64 d1])) W)
    (r2:∀ W,(callFunc 88 #[.int .u64 m2,.int .u64 y2,.int .u64 ca1]).run Tryd.prog W=.ok (.value (.tuple #[.int .u64 v2,.int .u64 ca2])) W)
    (s2:∀ W,(callFunc 89 #[.int .u64 v2,.int .u64 0,.int .u64 d1]).run Tryd.prog W=.ok (.value (.tuple #[.int .u64 u2,.int .u64 d2])) W)
    (r3:∀ W,(callFunc 88 #[.int .u64 m3,.int .u64 y3,.int .u64 ca2]).run Tryd.prog W=.ok (.value (.tuple #[.int .u64 v3,.int .u64 ca3])) W)
    (s3:∀ W,(callFunc 89 #[.int .u64 v3,.int .u64 1152921504606846976,.int .u64 d2]).run Tryd.prog W=.ok (.value (.tuple #[.int .u64 u3,.int .u64 1])) W) (w:World) (tO:TypeId) (hO:w.heap[3]? = some (.cells Qca tO)) :
    Calls Tryd.prog 63 #[.agg #[.int .u64 m0,.int .u64 m1,.int .u64 m2,.int .u64 m3],.agg #[.int .u64 y0,.int .u64 y1,.int .u64 y2,.int .u64 y3]] w (Ret w (words v0 v1 v2 v3)):=by
  refine enter 44 [(0,.agg (ints .u64 ([m0,m1,m2,m3]))),(1,.agg (ints .u64 ([y0,y1,y2,y3])))] Tryd.func63 rfl rfl kj rfl <| sgC fun K2 hK2=>Qah (ints .u64 ([m0,m1,m2,m3])) 97 2 rfl kj kj fun g3 W1 l3 e1 r3_1=>?_
  have x1:=Ext.tr (Rely.Ext.refl w) e1
  have b3:=qT (Rely.Ext.refl w).size l3
  refine Qah (ints .u64 ([y0,y1,y2,y3])) 97 3 rfl kj kj fun g4 W2 l4 e2 r4_2=>?_
  have x2:=Ext.tr x1 e2
  have b4:=qT x1.size l4
  refine Qah (ints .u64 ([0,0,0,0])) 97 4 rfl kj kj fun g5 W3 l5 e3 r5_3=>?_
  have x3:=Ext.tr x2 e3
  refine sgN hK2 <| sgB kj <| sgC fun K7 hK7=>?_
  have r3_3:=(Qaa (Qaa r3_1 e2) e3)
  refine Qag (.agg (ints .u64 ([m0,m1,m2,m3]))) 9 rfl kj (Qac 97 _ g3 97 _ _ r3_3 rfl kj kj (isz (n:=4) kj kj)) <| Qah (ints .u64 ([0,0,0,0])) 97 7 rfl kj kj fun g8 W4 l8 e4 r8_4=>?_
  have b8:=qT x3.size l8
  refine Qai g8 _ (ints .u64 ([m0,m1,m2,m3])) 97 r8_4 rfl kj (Qaf 97 _ _ g8 97 _ _ r8_4 rfl kj kj (isz (n:=4) kj kj) (eqsz (n:=4) kj kj) kj) fun W5 p5 r8_5=>sgN hK7 <| wp_seq_k fun K9 hK9=>sgB kj <| wp_block <| wp_loop_rounds 5 ?_
  show Code.wp _ _ (Exit.then (Code.rounds _ _ _ 4) _) _ _
  refine sgB kj <| sgT kj <| wp_seq_k fun K13 hK13=>wp_block <| sgB kj <| wp_seq_k fun K15 hK15=>QaL (fun W=>True) [⟨none,[(8,none)]⟩,⟨none,[(8,none)]⟩,⟨none,[(2,none),(15,some 1)]⟩,⟨none,[(16,some 2)]⟩,⟨none,[(8,none)]⟩,⟨none,[(3,none),(18,some 4)]⟩,⟨none,[(19,some 5)]⟩,⟨none,[(5,none)]⟩,⟨none,[(17,some 3),(20,some 6),(21,some 7)]⟩,⟨none,[(22,some 8)]⟩,⟨none,[(13,some 9)]⟩,⟨none,[(13,some 9)]⟩,⟨none,[(2,none),(14,some 0)]⟩,⟨none,[(25,some 12),(23,some 10)]⟩,⟨none,[(24,some 11)]⟩] [] [11,14] kj kj kj (fun W hR=>trivial) fun F hF=>Qav (.int .i64 0) kj kj rfl (fun W=>kj) <| Qav (.int .i64 0) kj kj rfl (fun W=>kj) <| Qav (.pointer (some ⟨g3,0,none⟩)) kj kj rfl (fun W=>kj) ?_
  have r3_5:=(Puts.row p5 (Qaa r3_3 e4) (Qab r3_3 l8))
  refine QaO (.int .u64 m0) kj kj kj rfl (fun W hR=>(Qak 46 _ g3 0 97 _ (.int .u64 m0) _ (Qaa (Qaa r3_5 (Qae _)) hR) rfl kj kj kj)) <| Qav (.int .i64 0) kj kj rfl (fun W=>kj) <| Qav (.pointer (some ⟨g4,0,none⟩)) kj kj rfl (fun W=>kj) ?_
  have r4_3:=(Qaa r4_2 e3)
  have r4_5:=(Puts.row p5 (Qaa (Qaa r4_2 e3) e4) (Qab r4_3 l8))
  refine QaO (.int .u64 y0) kj kj kj rfl (fun W hR=>(Qak 46 _ g4 0 97 _ (.int .u64 y0) _ (Qaa (Qaa r4_5 (Qae _)) hR) rfl kj kj kj)) <| Qav (.int .u64 0) kj kj rfl (fun W=>kj) <| Qav (.tuple #[.int .u64 v0,.int .u64 ca0]) kj kj rfl (fun W=>(QbG (f:=88) (args:=#[.int .u64 m0,.int .u64 y0,.int .u64 0]) _ _ _ rfl kj kj (r0 _))) <| Qav (.tuple #[.int .u64 v0,.int .u64 ca0]) kj kj rfl (fun W=>kj) <| Qav (.int .u64 v0) kj kj rfl (fun W=>kj) <| Qav (.int .u64 ca0) kj kj rfl (fun W=>kj) <| Qav (.pointer (some ⟨g3,0,none⟩)) kj kj rfl (fun W=>kj) <| Qbt rfl <| Qav (.int .u64 ca0) kj kj rfl (fun W=>kj) <| QcA (hF _ kj fun W6 e6=>?_)
  simp only [List.nil_append,List.cons_append,fins,up]
  clear hF
  have r3_6:=(Qaa r3_5 e6)
  refine Qbd _ g3 _ (ints .u64 ([v0,m1,m2,m3])) 97 r3_6 rfl (Qaz 46 _ _ g3 0 97 _ _ r3_6 rfl kj kj kj (Nat.lt_of_lt_of_eq (show 0<4 by decide) rfl.symm)) (fun W hp=>trivial) fun W7 p7 r3_7=>QbI <| hK15 _ _ <| QaL (fun W=>True) [⟨none,[(8,none)]⟩,⟨none,[(8,none)]⟩,⟨none,[(2,none),(28,some 1)]⟩,⟨none,[(29,some 2)]⟩,⟨none,[(8,none)]⟩,⟨none,[(31,some 4)]⟩,⟨none,[(32,some 5)]⟩,⟨none,[(6,none)]⟩,⟨none,[(30,some 3),(33,some 6),(34,some 7)]⟩,⟨none,[(35,some 8)]⟩,⟨none,[(26,some 9)]⟩,⟨none,[(26,some 9)]⟩,⟨none,[(7,none),(27,some 0)]⟩,⟨none,[(38,some 12),(36,some 10)]⟩,⟨none,[(37,some 11)]⟩] [] [11,14] kj kj kj (fun W hR=>trivial) fun F hF=>Qav (.int .i64 0) kj kj rfl (fun W=>kj) <| Qav (.int .i64 0) kj kj rfl (fun W=>kj) <| Qav (.pointer (some ⟨g3,0,none⟩)) kj kj rfl (fun W=>kj) <| QaO (.int .u64 v0) kj kj kj rfl (fun W hR=>(Qak 46 _ g3 0 97 _ (.int .u64 v0) _ (Qaa (Qaa r3_7 (Qae _)) hR) rfl kj kj kj)) <| Qav (.int .i64 0) kj kj rfl (fun W=>kj) <| Qav (.pointer (some ⟨3,0,none⟩)) kj kj rfl (fun W=>kj) ?_
  have r1_3:=(Qaa (Qaa (Qaa hO e1) e2) e3)
  have r1_7:=(Puts.row p7 (Qaa (Puts.row p5 (Qaa (Qaa (Qaa (Qaa hO e1) e2) e3) e4) (Qab r1_3 l8)) e6) (Qab hO l3))
  refine QaO (.int .u64 6346243789798364141) kj kj kj rfl (fun W hR=>(Qak 46 _ 3 0 tO _ (.int .u64 6346243789798364141) _ (Qaa (Qaa r1_7 (Qae _)) hR) rfl kj kj kj)) <| Qav (.int .u64 0) kj kj rfl (fun W=>kj) <| Qav (.tuple #[.int .u64 u0,.int .u64 d0]) kj kj rfl (fun W=>(QbG (f:=89) (args:=#[.int .u64 v0,.int .u64 6346243789798364141,.int .u64 0]) _ _ _ rfl kj kj (s0 _))) <| Qav (.tuple #[.int .u64 u0,.int .u64 d0]) kj kj rfl (fun W=>kj) <| Qav (.int .u64 u0) kj kj rfl (fun W=>kj) <| Qav (.int .u64 d0) kj kj rfl (fun W=>kj) <| Qav (.pointer (some ⟨g8,0,none⟩)) kj kj rfl (fun W=>kj) <| Qbt rfl <| Qav (.int .u64 d0) kj kj rfl (fun W=>kj) <| QcA (hF _ kj fun W8 e8=>?_)
  simp only [List.nil_append,List.cons_append,fins,up]
  clear hF
  have r8_8:=(Qaa (Puts.row p7 (Qaa r8_5 e6) (Qas r3_3 l8)) e8)
  refine Qbd _ g8 _ (ints .u64 ([u0,m1,m2,m3])) 97 r8_8 rfl (Qaz 46 _ _ g8 0 97 _ _ r8_8 rfl kj kj kj (Nat.lt_of_lt_of_eq (show 0<4 by decide) rfl.symm)) (fun W hp=>trivial) fun W9 p9 r8_9=>QbI <| hK13 _ _ <| sgA kj ?_
  show Code.rounds _ _ _ 4 _ _
  show Code.wp _ _ (Exit.then (Code.rounds _ _ _ 3) _) _ _
  refine sgB kj <| sgT kj <| wp_seq_k fun K18 hK18=>wp_block <| sgB kj <| wp_seq_k fun K20 hK20=>QaL (fun W=>True) [⟨none,[(8,none)]⟩,⟨none,[(8,none)]⟩,⟨none,[(2,none),(15,some 1)]⟩,⟨none,[(16,some 2)]⟩,⟨none,[(8,none)]⟩,⟨none,[(3,none),(18,some 4)]⟩,⟨none,[(19,some 5)]⟩,⟨none,[(5,none)]⟩,⟨none,[(17,some 3),(20,some 6),(21,some 7)]⟩,⟨none,[(22,some 8)]⟩,⟨none,[(13,some 9)]⟩,⟨none,[(13,some 9)]⟩,⟨none,[(2,none),(14,some 0)]⟩,⟨none,[(25,some 12),(23,some 10)]⟩,⟨none,[(24,some 11)]⟩] [] [11,14] kj kj kj (fun W hR=>trivial) fun F hF=>Qav (.int .i64 1) kj kj rfl (fun W=>kj) <| Qav (.int .i64 1) kj kj rfl (fun W=>kj) <| Qav (.pointer (some ⟨g3,1,none⟩)) kj kj rfl (fun W=>kj) ?_
  have r3_9:=(Puts.row p9 (Qaa r3_7 e8) (Qab r3_3 l8))
  refine QaO (.int .u64 m1) kj kj kj rfl (fun W hR=>(Qak 46 _ g3 1 97 _ (.int .u64 m1) _ (Qaa (Qaa r3_9 (Qae _)) hR) rfl kj kj kj)) <| Qav (.int .i64 1) kj kj rfl (fun W=>kj) <| Qav (.pointer (some ⟨g4,1,none⟩)) kj kj rfl (fun W=>kj) ?_
  have r4_9:=(Puts.row p9 (Qaa (Puts.row p7 (Qaa r4_5 e6) (Qas r3_1 l4)) e8) (Qab r4_3 l8))
  refine QaO (.int .u64 y1) kj kj kj rfl (fun W hR=>(Qak 46 _ g4 1 97 _ (.int .u64 y1) _ (Qaa (Qaa r4_9 (Qae _)) hR) rfl kj kj kj)) <| Qav (.int .u64 ca0) kj kj rfl (fun W=>kj) <| Qav (.tuple #[.int .u64 v1,.int .u64 ca1]) kj kj rfl (fun W=>(QbG (f:=88) (args:=#[.int .u64 m1,.int .u64 y1,.int .u64 ca0]) _ _ _ rfl kj kj (r1 _))) <| Qav (.tuple #[.int .u64 v1,.int .u64 ca1]) kj kj rfl (fun W=>kj) <| Qav (.int .u64 v1) kj kj rfl (fun W=>kj) <| Qav (.int .u64 ca1) kj kj rfl (fun W=>kj) <| Qav (.pointer (some ⟨g3,1,none⟩)) kj kj rfl (fun W=>kj) <| Qbt rfl <| Qav (.int .u64 ca1) kj kj rfl (fun W=>kj) <| QcA (hF _ kj fun W10 e10=>?_)
  simp only [List.nil_append,List.cons_append,fins,up]
  clear hF
  have r3_10:=(Qaa r3_9 e10)
  refine Qbd _ g3 _ (ints .u64 ([v0,v1,m2,m3])) 97 r3_10 rfl (Qaz 46 _ _ g3 1 97 _ _ r3_10 rfl kj kj kj (Nat.lt_of_lt_of_eq (show 1<4 by decide) rfl.symm)) (fun W hp=>trivial) fun W11 p11 r3_11=>QbI <| hK20 _ _ <| QaL (fun W=>True) [⟨none,[(8,none)]⟩,⟨none,[(8,none)]⟩,⟨none,[(2,none),(28,some 1)]⟩,⟨none,[(29,some 2)]⟩,⟨none,[(8,none)]⟩,⟨none,[(31,some 4)]⟩,⟨none,[(32,some 5)]⟩,⟨none,[(6,none)]⟩,⟨none,[(30,some 3),(33,some 6),(34,some 7)]⟩,⟨none,[(35,some 8)]⟩,⟨none,[(26,some 9)]⟩,⟨none,[(26,some 9)]⟩,⟨none,[(7,none),(27,some 0)]⟩,⟨none,[(38,some 12),(36,some 10)]⟩,⟨none,[(37,some 11)]⟩] [] [11,14] kj kj kj (fun W hR=>trivial) fun F hF=>Qav (.int .i64 1) kj kj rfl (fun W=>kj) <| Qav (.int .i64 1) kj kj rfl (fun W=>kj) <| Qav (.pointer (some ⟨g3,1,none⟩)) kj kj rfl (fun W=>kj) <| QaO (.int .u64 v1) kj kj kj rfl (fun W hR=>(Qak 46 _ g3 1 97 _ (.int .u64 v1) _ (Qaa (Qaa r3_11 (Qae _)) hR) rfl kj kj kj)) <| Qav (.int .i64 1) kj kj rfl (fun W=>kj) <| Qav (.pointer (some ⟨3,1,none⟩)) kj kj rfl (fun W=>kj) ?_
  have r1_11:=(Puts.row p11 (Qaa (Puts.row p9 (Qaa r1_7 e8) (Qab r1_3 l8)) e10) (Qab hO l3))
  refine QaO (.int .u64 1503914060200516822) kj kj kj rfl (fun W hR=>(Qak 46 _ 3 1 tO _ (.int .u64 1503914060200516822) _ (Qaa (Qaa r1_11 (Qae _)) hR) rfl kj kj kj)) <| Qav (.int .u64 d0) kj kj rfl (fun W=>kj) <| Qav (.tuple #[.int .u64 u1,.int .u64 d1]) kj kj rfl (fun W=>(QbG (f:=89) (args:=#[.int .u64 v1,.int .u64 1503914060200516822,.int .u64 d0]) _ _ _ rfl kj kj (s1 _))) <| Qav (.tuple #[.int .u64 u1,.int .u64 d1]) kj kj rfl (fun W=>kj) <| Qav (.int .u64 u1) kj kj rfl (fun W=>kj) <| Qav (.int .u64 d1) kj kj rfl (fun W=>kj) <| Qav (.pointer (some ⟨g8,1,none⟩)) kj kj rfl (fun W=>kj) <| Qbt rfl <| Qav (.int .u64 d1) kj kj rfl (fun W=>kj) <| QcA (hF _ kj fun W12 e12=>?_)
  simp only [List.nil_append,List.cons_append,fins,up]
  clear hF
  have r8_12:=(Qaa (Puts.row p11 (Qaa r8_9 e10) (Qas r3_3 l8)) e12)
  refine Qbd _ g8 _ (ints .u64 ([u0,u1,m2,m3])) 97 r8_12 rfl (Qaz 46 _ _ g8 1 97 _ _ r8_12 rfl kj kj kj (Nat.lt_of_lt_of_eq (show 1<4 by decide) rfl.symm)) (fun W hp=>trivial) fun W13 p13 r8_13=>QbI <| hK18 _ _ <| sgA kj ?_
  show Code.rounds _ _ _ 3 _ _
  show Code.wp _ _ (Exit.then (Code.rounds _ _ _ 2) _) _ _
  refine sgB kj <| sgT kj <| wp_seq_k fun K23 hK23=>wp_block <| sgB kj <| wp_seq_k fun K25 hK25=>QaL (fun W=>True) [⟨none,[(8,none)]⟩,⟨none,[(8,none)]⟩,⟨none,[(2,none),(15,some 1)]⟩,⟨none,[(16,some 2)]⟩,⟨none,[(8,none)]⟩,⟨none,[(3,none),(18,some 4)]⟩,⟨none,[(19,some 5)]⟩,⟨none,[(5,none)]⟩,⟨none,[(17,some 3),(20,some 6),(21,some 7)]⟩,⟨none,[(22,some 8)]⟩,⟨none,[(13,some 9)]⟩,⟨none,[(13,some 9)]⟩,⟨none,[(2,none),(14,some 0)]⟩,⟨none,[(25,some 12),(23,some 10)]⟩,⟨none,[(24,some 11)]⟩] [] [11,14] kj kj kj (fun W hR=>trivial) fun F hF=>Qav (.int .i64 2) kj kj rfl (fun W=>kj) <| Qav (.int .i64 2) kj kj rfl (fun W=>kj) <| Qav (.pointer (some ⟨g3,2,none⟩)) kj kj rfl (fun W=>kj) ?_
  have r3_13:=(Puts.row p13 (Qaa r3_11 e12) (Qab r3_3 l8))
  refine QaO (.int .u64 m2) kj kj kj rfl (fun W hR=>(Qak 46 _ g3 2 97 _ (.int .u64 m2) _ (Qaa (Qaa r3_13 (Qae _)) hR) rfl kj kj kj)) <| Qav (.int .i64 2) kj kj rfl (fun W=>kj) <| Qav (.pointer (some ⟨g4,2,none⟩)) kj kj rfl (fun W=>kj) ?_
  have r4_13:=(Puts.row p13 (Qaa (Puts.row p11 (Qaa r4_9 e10) (Qas r3_1 l4)) e12) (Qab r4_3 l8))
  refine QaO (.int .u64 y2) kj kj kj rfl (fun W hR=>(Qak 46 _ g4 2 97 _ (.int .u64 y2) _ (Qaa (Qaa r4_13 (Qae _)) hR) rfl kj kj kj)) <| Qav (.int .u64 ca1) kj kj rfl (fun W=>kj) <| Qav (.tuple #[.int .u64 v2,.int .u64 ca2]) kj kj rfl (fun W=>(QbG (f:=88) (args:=#[.int .u64 m2,.int .u64 y2,.int .u64 ca1]) _ _ _ rfl kj kj (r2 _))) <| Qav (.tuple #[.int .u64 v2,.int .u64 ca2]) kj kj rfl (fun W=>kj) <| Qav (.int .u64 v2) kj kj rfl (fun W=>kj) <| Qav (.int .u64 ca2) kj kj rfl (fun W=>kj) <| Qav (.pointer (some ⟨g3,2,none⟩)) kj kj rfl (fun W=>kj) <| Qbt rfl <| Qav (.int .u64 ca2) kj kj rfl (fun W=>kj) <| QcA (hF _ kj fun W14 e14=>?_)
  simp only [List.nil_append,List.cons_append,fins,up]
  clear hF
  have r3_14:=(Qaa r3_13 e14)
  refine Qbd _ g3 _ (ints .u64 ([v0,v1,v2,m3])) 97 r3_14 rfl (Qaz 46 _ _ g3 2 97 _ _ r3_14 rfl kj kj kj (Nat.lt_of_lt_of_eq (show 2<4 by decide) rfl.symm)) (fun W hp=>trivial) fun W15 p15 r3_15=>QbI <| hK25 _ _ <| QaL (fun W=>True) [⟨none,[(8,none)]⟩,⟨none,[(8,none)]⟩,⟨none,[(2,none),(28,some 1)]⟩,⟨none,[(29,some 2)]⟩,⟨none,[(8,none)]⟩,⟨none,[(31,some 4)]⟩,⟨none,[(32,some 5)]⟩,⟨none,[(6,none)]⟩,⟨none,[(30,some 3),(33,some 6),(34,some 7)]⟩,⟨none,[(35,some 8)]⟩,⟨none,[(26,some 9)]⟩,⟨none,[(26,some 9)]⟩,⟨none,[(7,none),(27,some 0)]⟩,⟨none,[(38,some 12),(36,some 10)]⟩,⟨none,[(37,some 11)]⟩] [] [11,14] kj kj kj (fun W hR=>trivial) fun F hF=>Qav (.int .i64 2) kj kj rfl (fun W=>kj) <| Qav (.int .i64 2) kj kj rfl (fun W=>kj) <| Qav (.pointer (some ⟨g3,2,none⟩)) kj kj rfl (fun W=>kj) <| QaO (.int .u64 v2) kj kj kj rfl (fun W hR=>(Qak 46 _ g3 2 97 _ (.int .u64 v2) _ (Qaa (Qaa r3_15 (Qae _)) hR) rfl kj kj kj)) <| Qav (.int .i64 2) kj kj rfl (fun W=>kj) <| Qav (.pointer (some ⟨3,2,none⟩)) kj kj rfl (fun W=>kj) ?_
  have r1_15:=(Puts.row p15 (Qaa (Puts.row p13 (Qaa r1_11 e12) (Qab r1_3 l8)) e14) (Qab hO l3))
  refine QaO (.int .u64 0) kj kj kj rfl (fun W hR=>(Qak 46 _ 3 2 tO _ (.int .u64 0) _ (Qaa (Qaa r1_15 (Qae _)) hR) rfl kj kj kj)) <| Qav (.int .u64 d1) kj kj rfl (fun W=>kj) <| Qav (.tuple #[.int .u64 u2,.int .u64 d2]) kj kj rfl (fun W=>(QbG (f:=89) (args:=#[.int .u64 v2,.int .u64 0,.int .u64 d1]) _ _ _ rfl kj kj (s2 _))) <| Qav (.tuple #[.int .u64 u2,.int .u64 d2]) kj kj rfl (fun W=>kj) <| Qav (.int .u64 u2) kj kj rfl (fun W=>kj) <| Qav (.int .u64 d2) kj kj rfl (fun W=>kj) <| Qav (.pointer (some ⟨g8,2,none⟩)) kj kj rfl (fun W=>kj) <| Qbt rfl <| Qav (.int .u64 d2) kj kj rfl (fun W=>kj) <| QcA (hF _ kj fun W16 e16=>?_)
  simp only [List.nil_append,List.cons_append,fins,up]
  clear hF
  have r8_16:=(Qaa (Puts.row p15 (Qaa r8_13 e14) (Qas r3_3 l8)) e16)
  refine Qbd _ g8 _ (ints .u64 ([u0,u1,u2,m3])) 97 r8_16 rfl (Qaz 46 _ _ g8 2 97 _ _ r8_16 rfl kj kj kj (Nat.lt_of_lt_of_eq (show 2<4 by decide) rfl.symm)) (fun W hp=>trivial) fun W17 p17 r8_17=>QbI <| hK23 _ _ <| sgA kj ?_
  show Code.rounds _ _ _ 2 _ _
  show Code.wp _ _ (Exit.then (Code.rounds _ _ _ 1) _) _ _
  refine sgB kj <| sgT kj <| wp_seq_k fun K28 hK28=>wp_block <| sgB kj <| wp_seq_k fun K30 hK30=>QaL (fun W=>True) [⟨none,[(8,none)]⟩,⟨none,[(8,none)]⟩,⟨none,[(2,none),(15,some 1)]⟩,⟨none,[(16,some 2)]⟩,⟨none,[(8,none)]⟩,⟨none,[(3,none),(18,some 4)]⟩,⟨none,[(19,some 5)]⟩,⟨none,[(5,none)]⟩,⟨none,[(17,some 3),(20,some 6),(21,some 7)]⟩,⟨none,[(22,some 8)]⟩,⟨none,[(13,some 9)]⟩,⟨none,[(13,some 9)]⟩,⟨none,[(2,none),(14,some 0)]⟩,⟨none,[(25,some 12),(23,some 10)]⟩,⟨none,[(24,some 11)]⟩] [] [11,14] kj kj kj (fun W hR=>trivial) fun F hF=>Qav (.int .i64 3) kj kj rfl (fun W=>kj) <| Qav (.int .i64 3) kj kj rfl (fun W=>kj) <| Qav (.pointer (some ⟨g3,3,none⟩)) kj kj rfl (fun W=>kj) ?_
  have r3_17:=(Puts.row p17 (Qaa r3_15 e16) (Qab r3_3 l8))
  refine QaO (.int .u64 m3) kj kj kj rfl (fun W hR=>(Qak 46 _ g3 3 97 _ (.int .u64 m3) _ (Qaa (Qaa r3_17 (Qae _)) hR) rfl kj kj kj)) <| Qav (.int .i64 3) kj kj rfl (fun W=>kj) <| Qav (.pointer (some ⟨g4,3,none⟩)) kj kj rfl (fun W=>kj) <| QaO (.int .u64 y3) kj kj kj rfl (fun W hR=>(Qak 46 _ g4 3 97 _ (.int .u64 y3) _ (Qaa (Qaa (Puts.row p17 (Qaa (Puts.row p15 (Qaa r4_13 e14) (Qas r3_1 l4)) e16) (Qab r4_3 l8)) (Qae _)) hR) rfl kj kj kj)) <| Qav (.int .u64 ca2) kj kj rfl (fun W=>kj) <| Qav (.tuple #[.int .u64 v3,.int .u64 ca3]) kj kj rfl (fun W=>(QbG (f:=88) (args:=#[.int .u64 m3,.int .u64 y3,.int .u64 ca2]) _ _ _ rfl kj kj (r3 _))) <| Qav (.tuple #[.int .u64 v3,.int .u64 ca3]) kj kj rfl (fun W=>kj) <| Qav (.int .u64 v3) kj kj rfl (fun W=>kj) <| Qav (.int .u64 ca3) kj kj rfl (fun W=>kj) <| Qav (.pointer (some ⟨g3,3,none⟩)) kj kj rfl (fun W=>kj) ?_
  refine Qbt rfl <| Qav (.int .u64 ca3) kj kj rfl (fun W=>kj) <| QcA (hF _ kj fun W18 e18=>?_)
  simp only [List.nil_append,List.cons_append,fins,up]
  clear hF
  have r3_18:=(Qaa r3_17 e18)
  refine Qbd _ g3 _ (ints .u64 ([v0,v1,v2,v3])) 97 r3_18 rfl (Qaz 46 _ _ g3 3 97 _ _ r3_18 rfl kj kj kj (Nat.lt_of_lt_of_eq (show 3<4 by decide) rfl.symm)) (fun W hp=>trivial) fun W19 p19 r3_19=>QbI <| hK30 _ _ <| QaL (fun W=>True) [⟨none,[(8,none)]⟩,⟨none,[(8,none)]⟩,⟨none,[(2,none),(28,some 1)]⟩,⟨none,[(29,some 2)]⟩,⟨none,[(8,none)]⟩,⟨none,[(31,some 4)]⟩,⟨none,[(32,some 5)]⟩,⟨none,[(6,none)]⟩,⟨none,[(30,some 3),(33,some 6),(34,some 7)]⟩,⟨none,[(35,some 8)]⟩,⟨none,[(26,some 9)]⟩,⟨none,[(26,some 9)]⟩,⟨none,[(7,none),(27,some 0)]⟩,⟨none,[(38,some 12),(36,some 10)]⟩,⟨none,[(37,some 11)]⟩] [] [11,14] kj kj kj (fun W hR=>trivial) fun F hF=>Qav (.int .i64 3) kj kj rfl (fun W=>kj) <| Qav (.int .i64 3) kj kj rfl (fun W=>kj) <| Qav (.pointer (some ⟨g3,3,none⟩)) kj kj rfl (fun W=>kj) <| QaO (.int .u64 v3) kj kj kj rfl (fun W hR=>(Qak 46 _ g3 3 97 _ (.int .u64 v3) _ (Qaa (Qaa r3_19 (Qae _)) hR) rfl kj kj kj)) <| Qav (.int .i64 3) kj kj rfl (fun W=>kj) <| Qav (.pointer (some ⟨3,3,none⟩)) kj kj rfl (fun W=>kj) ?_
  refine QaO (.int .u64 1152921504606846976) kj kj kj rfl (fun W hR=>(Qak 46 _ 3 3 tO _ (.int .u64 1152921504606846976) _ (Qaa (Qaa (Puts.row p19 (Qaa (Puts.row p17 (Qaa r1_15 e16) (Qab r1_3 l8)) e18) (Qab hO l3)) (Qae _)) hR) rfl kj kj kj)) <| Qav (.int .u64 d2) kj kj rfl (fun W=>kj) <| Qav (.tuple #[.int .u64 u3,.int .u64 1]) kj kj rfl (fun W=>(QbG (f:=89) (args:=#[.int .u64 v3,.int .u64 1152921504606846976,.int .u64 d2]) _ _ _ rfl kj kj (s3 _))) <| Qav (.tuple #[.int .u64 u3,.int .u64 1]) kj kj rfl (fun W=>kj) <| Qav (.int .u64 u3) kj kj rfl (fun W=>kj) <| Qav (.int .u64 1) kj kj rfl (fun W=>kj) <| Qav (.pointer (some ⟨g8,3,none⟩)) kj kj rfl (fun W=>kj) <| Qbt rfl <| Qav (.int .u64 1) kj kj rfl (fun W=>kj) <| QcA (hF _ kj fun W20 e20=>?_)
  simp only [List.nil_append,List.cons_append,fins,up]
  clear hF
  have r8_20:=(Qaa (Puts.row p19 (Qaa r8_17 e18) (Qas r3_3 l8)) e20)
  refine Qbd _ g8 _ (ints .u64 ([u0,u1,u2,u3])) 97 r8_20 rfl (Qaz 46 _ _ g8 3 97 _ _ r8_20 rfl kj kj kj (Nat.lt_of_lt_of_eq (show 3<4 by decide) rfl.symm)) (fun W hp=>trivial) fun W21 p21 r8_21=>QbI <| hK28 _ _ <| sgA kj ?_
  show Code.rounds _ _ _ 1 _ _
  show Code.wp _ _ (Exit.then (Code.rounds _ _ _ 0) _) _ _
  refine sgB kj <| wp_seq_k fun K32 hK32=>cond_false kj <| wp_exit <| hK9 _ _ <| wp_seq_k fun K33 hK33=>sgB kj <| cond_true kj <| sgC fun K35 hK35=>Qag (.agg (ints .u64 ([v0,v1,v2,v3]))) 42 rfl kj (Qac 97 _ g3 97 _ _ (Puts.row p21 (Qaa r3_19 e20) (Qab r3_3 l8)) rfl kj kj (isz (n:=4) kj kj)) ?_
  have r3_2:=(Qaa r3_1 e2)
  have r5_21:=(Puts.row p21 (Qaa (Puts.row p19 (Qaa (Puts.row p17 (Qaa (Puts.row p15 (Qaa (Puts.row p13 (Qaa (Puts.row p11 (Qaa (Puts.row p9 (Qaa (Puts.row p7 (Qaa (Puts.row p5 (Qaa r5_3 e4) (Qab r5_3 l8)) e6) (Qas r3_2 l5)) e8) (Qab r5_3 l8)) e10) (Qas r3_2 l5)) e12) (Qab r5_3 l8)) e14) (Qas r3_2 l5)) e16) (Qab r5_3 l8)) e18) (Qas r3_2 l5)) e20) (Qab r5_3 l8))
  refine Qai g5 _ (ints .u64 ([v0,v1,v2,v3])) 97 r5_21 rfl kj (Qaf 97 _ _ g5 97 _ _ r5_21 rfl kj kj (isz (n:=4) kj kj) (eqsz (n:=4) kj kj) kj) fun W22 p22 r5_22=>sgN hK35 <| wp_ret ?_
  exact (show bodyPost _ _ _ .ret _ _ from ret1 (.agg (ints .u64 ([v0,v1,v2,v3]))) rfl (Qa8 g5 97 _ r5_22 kj kj (isz (n:=4) kj kj)) ⟨rfl,(Puts.ext p22 (Puts.ext p21 (Ext.tr (Puts.ext p19 (Ext.tr (Puts.ext p17 (Ext.tr (Puts.ext p15 (Ext.tr (Puts.ext p13 (Ext.tr (Puts.ext p11 (Ext.tr (Puts.ext p9 (Ext.tr (Puts.ext p7 (Ext.tr (Puts.ext p5 (Ext.tr x3 e4) b8) e6) b3) e8) b8) e10) b3) e12) b8) e14) b3) e16) b8) e18) b3) e20) b8) (qT x2.size l5))⟩)
theorem Qql (m0 m1 m2 m3 y0 y1 y2 y3 v0 v1 v2 v3 ca0 ca1 ca2 ca3 u0 u1 u2 u3 d0 d1 d2:Int)
    (r0:∀ W,(callFunc 88 #[.int .u64 m0,.int .u64 y0,.int .u64 0]).run Tryd.prog W=.ok (.value (.tuple #[.int .u64 v0,.int .u64 ca0])) W)
    (s0:∀ W,(callFunc 89 #[.int .u64 v0,.int .u64 6346243789798364141,.int .u64 0]).run Tryd.prog W=.ok (.value (.tuple #[.int .u64 u0,.int .u64 d0])) W)
    (r1:∀ W,(callFunc 88 #[.int .u64 m1,.int .u64 y1,.int .u64 ca0]).run Tryd.prog W=.ok (.value (.tuple #[.int .u64 v1,.int .u64 ca1])) W)
    (s1:∀ W,(callFunc 89 #[.int .u64 v1,.int .u64 1503914060200516822,.int .u64 d0]).run Tryd.prog W=.ok (.value (.tuple #[.int .u64 u1,.int .u64 d1])) W)
    (r2:∀ W,(callFunc 88 #[.int .u64 m2,.int .u64 y2,.int .u64 ca1]).run Tryd.prog W=.ok (.value (.tuple #[.int .u64 v2,.int .u64 ca2])) W)
    (s2:∀ W,(callFunc 89 #[.int .u64 v2,.int .u64 0,.int .u64 d1]).run Tryd.prog W=.ok (.value (.tuple #[.int .u64 u2,.int .u64 d2])) W)
    (r3:∀ W,(callFunc 88 #[.int .u64 m3,.int .u64 y3,.int .u64 ca2]).run Tryd.prog W=.ok (.value (.tuple #[.int .u64 v3,.int .u64 ca3])) W)
    (s3:∀ W,(callFunc 89 #[.int .u64 v3,.int .u64 1152921504606846976,.int .u64 d2]).run Tryd.prog W=.ok (.value (.tuple #[.int .u64 u3,.int .u64 0])) W) (w:World) (tO:TypeId) (hO:w.heap[3]? = some (.cells Qca tO)) :
    Calls Tryd.prog 63 #[.agg #[.int .u64 m0,.int .u64 m1,.int .u64 m2,.int .u64 m3],.agg #[.int .u64 y0,.int .u64 y1,.int .u64 y2,.int .u64 y3]] w (Ret w (words u0 u1 u2 u3)):=by
  refine enter 44 [(0,.agg (ints .u64 ([m0,m1,m2,m3]))),(1,.agg (ints .u64 ([y0,y1,y2,y3])))] Tryd.func63 rfl rfl kj rfl <| sgC fun K2 hK2=>Qah (ints .u64 ([m0,m1,m2,m3])) 97 2 rfl kj kj fun g3 W1 l3 e1 r3_1=>?_
  have x1:=Ext.tr (Rely.Ext.refl w) e1
  have b3:=qT (Rely.Ext.refl w).size l3
  refine Qah (ints .u64 ([y0,y1,y2,y3])) 97 3 rfl kj kj fun g4 W2 l4 e2 r4_2=>?_
  have x2:=Ext.tr x1 e2
  have b4:=qT x1.size l4
  refine Qah (ints .u64 ([0,0,0,0])) 97 4 rfl kj kj fun g5 W3 l5 e3 r5_3=>?_
  have x3:=Ext.tr x2 e3
  refine sgN hK2 <| sgB kj <| sgC fun K7 hK7=>?_
  have r3_3:=(Qaa (Qaa r3_1 e2) e3)
  refine Qag (.agg (ints .u64 ([m0,m1,m2,m3]))) 9 rfl kj (Qac 97 _ g3 97 _ _ r3_3 rfl kj kj (isz (n:=4) kj kj)) <| Qah (ints .u64 ([0,0,0,0])) 97 7 rfl kj kj fun g8 W4 l8 e4 r8_4=>?_
  have b8:=qT x3.size l8
  refine Qai g8 _ (ints .u64 ([m0,m1,m2,m3])) 97 r8_4 rfl kj (Qaf 97 _ _ g8 97 _ _ r8_4 rfl kj kj (isz (n:=4) kj kj) (eqsz (n:=4) kj kj) kj) fun W5 p5 r8_5=>sgN hK7 <| wp_seq_k fun K9 hK9=>sgB kj <| wp_block <| wp_loop_rounds 5 ?_
  show Code.wp _ _ (Exit.then (Code.rounds _ _ _ 4) _) _ _
  refine sgB kj <| sgT kj <| wp_seq_k fun K13 hK13=>wp_block <| sgB kj <| wp_seq_k fun K15 hK15=>QaL (fun W=>True) [⟨none,[(8,none)]⟩,⟨none,[(8,none)]⟩,⟨none,[(2,none),(15,some 1)]⟩,⟨none,[(16,some 2)]⟩,⟨none,[(8,none)]⟩,⟨none,[(3,none),(18,some 4)]⟩,⟨none,[(19,some 5)]⟩,⟨none,[(5,none)]⟩,⟨none,[(17,some 3),(20,some 6),(21,some 7)]⟩,⟨none,[(22,some 8)]⟩,⟨none,[(13,some 9)]⟩,⟨none,[(13,some 9)]⟩,⟨none,[(2,none),(14,some 0)]⟩,⟨none,[(25,some 12),(23,some 10)]⟩,⟨none,[(24,some 11)]⟩] [] [11,14] kj kj kj (fun W hR=>trivial) fun F hF=>Qav (.int .i64 0) kj kj rfl (fun W=>kj) <| Qav (.int .i64 0) kj kj rfl (fun W=>kj) <| Qav (.pointer (some ⟨g3,0,none⟩)) kj kj rfl (fun W=>kj) ?_
  have r3_5:=(Puts.row p5 (Qaa r3_3 e4) (Qab r3_3 l8))
  refine QaO (.int .u64 m0) kj kj kj rfl (fun W hR=>(Qak 46 _ g3 0 97 _ (.int .u64 m0) _ (Qaa (Qaa r3_5 (Qae _)) hR) rfl kj kj kj)) <| Qav (.int .i64 0) kj kj rfl (fun W=>kj) <| Qav (.pointer (some ⟨g4,0,none⟩)) kj kj rfl (fun W=>kj) ?_
  have r4_3:=(Qaa r4_2 e3)
  have r4_5:=(Puts.row p5 (Qaa (Qaa r4_2 e3) e4) (Qab r4_3 l8))
  refine QaO (.int .u64 y0) kj kj kj rfl (fun W hR=>(Qak 46 _ g4 0 97 _ (.int .u64 y0) _ (Qaa (Qaa r4_5 (Qae _)) hR) rfl kj kj kj)) <| Qav (.int .u64 0) kj kj rfl (fun W=>kj) <| Qav (.tuple #[.int .u64 v0,.int .u64 ca0]) kj kj rfl (fun W=>(QbG (f:=88) (args:=#[.int .u64 m0,.int .u64 y0,.int .u64 0]) _ _ _ rfl kj kj (r0 _))) <| Qav (.tuple #[.int .u64 v0,.int .u64 ca0]) kj kj rfl (fun W=>kj) <| Qav (.int .u64 v0) kj kj rfl (fun W=>kj) <| Qav (.int .u64 ca0) kj kj rfl (fun W=>kj) <| Qav (.pointer (some ⟨g3,0,none⟩)) kj kj rfl (fun W=>kj) <| Qbt rfl <| Qav (.int .u64 ca0) kj kj rfl (fun W=>kj) <| QcA (hF _ kj fun W6 e6=>?_)
  simp only [List.nil_append,List.cons_append,fins,up]
  clear hF
  have r3_6:=(Qaa r3_5 e6)
  refine Qbd _ g3 _ (ints .u64 ([v0,m1,m2,m3])) 97 r3_6 rfl (Qaz 46 _ _ g3 0 97 _ _ r3_6 rfl kj kj kj (Nat.lt_of_lt_of_eq (show 0<4 by decide) rfl.symm)) (fun W hp=>trivial) fun W7 p7 r3_7=>QbI <| hK15 _ _ <| QaL (fun W=>True) [⟨none,[(8,none)]⟩,⟨none,[(8,none)]⟩,⟨none,[(2,none),(28,some 1)]⟩,⟨none,[(29,some 2)]⟩,⟨none,[(8,none)]⟩,⟨none,[(31,some 4)]⟩,⟨none,[(32,some 5)]⟩,⟨none,[(6,none)]⟩,⟨none,[(30,some 3),(33,some 6),(34,some 7)]⟩,⟨none,[(35,some 8)]⟩,⟨none,[(26,some 9)]⟩,⟨none,[(26,some 9)]⟩,⟨none,[(7,none),(27,some 0)]⟩,⟨none,[(38,some 12),(36,some 10)]⟩,⟨none,[(37,some 11)]⟩] [] [11,14] kj kj kj (fun W hR=>trivial) fun F hF=>Qav (.int .i64 0) kj kj rfl (fun W=>kj) <| Qav (.int .i64 0) kj kj rfl (fun W=>kj) <| Qav (.pointer (some ⟨g3,0,none⟩)) kj kj rfl (fun W=>kj) <| QaO (.int .u64 v0) kj kj kj rfl (fun W hR=>(Qak 46 _ g3 0 97 _ (.int .u64 v0) _ (Qaa (Qaa r3_7 (Qae _)) hR) rfl kj kj kj)) <| Qav (.int .i64 0) kj kj rfl (fun W=>kj) <| Qav (.pointer (some ⟨3,0,none⟩)) kj kj rfl (fun W=>kj) ?_
  have r1_3:=(Qaa (Qaa (Qaa hO e1) e2) e3)
  have r1_7:=(Puts.row p7 (Qaa (Puts.row p5 (Qaa (Qaa (Qaa (Qaa hO e1) e2) e3) e4) (Qab r1_3 l8)) e6) (Qab hO l3))
  refine QaO (.int .u64 6346243789798364141) kj kj kj rfl (fun W hR=>(Qak 46 _ 3 0 tO _ (.int .u64 6346243789798364141) _ (Qaa (Qaa r1_7 (Qae _)) hR) rfl kj kj kj)) <| Qav (.int .u64 0) kj kj rfl (fun W=>kj) <| Qav (.tuple #[.int .u64 u0,.int .u64 d0]) kj kj rfl (fun W=>(QbG (f:=89) (args:=#[.int .u64 v0,.int .u64 6346243789798364141,.int .u64 0]) _ _ _ rfl kj kj (s0 _))) <| Qav (.tuple #[.int .u64 u0,.int .u64 d0]) kj kj rfl (fun W=>kj) <| Qav (.int .u64 u0) kj kj rfl (fun W=>kj) <| Qav (.int .u64 d0) kj kj rfl (fun W=>kj) <| Qav (.pointer (some ⟨g8,0,none⟩)) kj kj rfl (fun W=>kj) <| Qbt rfl <| Qav (.int .u64 d0) kj kj rfl (fun W=>kj) <| QcA (hF _ kj fun W8 e8=>?_)
  simp only [List.nil_append,List.cons_append,fins,up]
  clear hF
  have r8_8:=(Qaa (Puts.row p7 (Qaa r8_5 e6) (Qas r3_3 l8)) e8)
  refine Qbd _ g8 _ (ints .u64 ([u0,m1,m2,m3])) 97 r8_8 rfl (Qaz 46 _ _ g8 0 97 _ _ r8_8 rfl kj kj kj (Nat.lt_of_lt_of_eq (show 0<4 by decide) rfl.symm)) (fun W hp=>trivial) fun W9 p9 r8_9=>QbI <| hK13 _ _ <| sgA kj ?_
  show Code.rounds _ _ _ 4 _ _
  show Code.wp _ _ (Exit.then (Code.rounds _ _ _ 3) _) _ _
  refine sgB kj <| sgT kj <| wp_seq_k fun K18 hK18=>wp_block <| sgB kj <| wp_seq_k fun K20 hK20=>QaL (fun W=>True) [⟨none,[(8,none)]⟩,⟨none,[(8,none)]⟩,⟨none,[(2,none),(15,some 1)]⟩,⟨none,[(16,some 2)]⟩,⟨none,[(8,none)]⟩,⟨none,[(3,none),(18,some 4)]⟩,⟨none,[(19,some 5)]⟩,⟨none,[(5,none)]⟩,⟨none,[(17,some 3),(20,some 6),(21,some 7)]⟩,⟨none,[(22,some 8)]⟩,⟨none,[(13,some 9)]⟩,⟨none,[(13,some 9)]⟩,⟨none,[(2,none),(14,some 0)]⟩,⟨none,[(25,some 12),(23,some 10)]⟩,⟨none,[(24,some 11)]⟩] [] [11,14] kj kj kj (fun W hR=>trivial) fun F hF=>Qav (.int .i64 1) kj kj rfl (fun W=>kj) <| Qav (.int .i64 1) kj kj rfl (fun W=>kj) <| Qav (.pointer (some ⟨g3,1,none⟩)) kj kj rfl (fun W=>kj) ?_
  have r3_9:=(Puts.row p9 (Qaa r3_7 e8) (Qab r3_3 l8))
  refine QaO (.int .u64 m1) kj kj kj rfl (fun W hR=>(Qak 46 _ g3 1 97 _ (.int .u64 m1) _ (Qaa (Qaa r3_9 (Qae _)) hR) rfl kj kj kj)) <| Qav (.int .i64 1) kj kj rfl (fun W=>kj) <| Qav (.pointer (some ⟨g4,1,none⟩)) kj kj rfl (fun W=>kj) ?_
  have r4_9:=(Puts.row p9 (Qaa (Puts.row p7 (Qaa r4_5 e6) (Qas r3_1 l4)) e8) (Qab r4_3 l8))
  refine QaO (.int .u64 y1) kj kj kj rfl (fun W hR=>(Qak 46 _ g4 1 97 _ (.int .u64 y1) _ (Qaa (Qaa r4_9 (Qae _)) hR) rfl kj kj kj)) <| Qav (.int .u64 ca0) kj kj rfl (fun W=>kj) <| Qav (.tuple #[.int .u64 v1,.int .u64 ca1]) kj kj rfl (fun W=>(QbG (f:=88) (args:=#[.int .u64 m1,.int .u64 y1,.int .u64 ca0]) _ _ _ rfl kj kj (r1 _))) <| Qav (.tuple #[.int .u64 v1,.int .u64 ca1]) kj kj rfl (fun W=>kj) <| Qav (.int .u64 v1) kj kj rfl (fun W=>kj) <| Qav (.int .u64 ca1) kj kj rfl (fun W=>kj) <| Qav (.pointer (some ⟨g3,1,none⟩)) kj kj rfl (fun W=>kj) <| Qbt rfl <| Qav (.int .u64 ca1) kj kj rfl (fun W=>kj) <| QcA (hF _ kj fun W10 e10=>?_)
  simp only [List.nil_append,List.cons_append,fins,up]
  clear hF
  have r3_10:=(Qaa r3_9 e10)
  refine Qbd _ g3 _ (ints .u64 ([v0,v1,m2,m3])) 97 r3_10 rfl (Qaz 46 _ _ g3 1 97 _ _ r3_10 rfl kj kj kj (Nat.lt_of_lt_of_eq (show 1<4 by decide) rfl.symm)) (fun W hp=>trivial) fun W11 p11 r3_11=>QbI <| hK20 _ _ <| QaL (fun W=>True) [⟨none,[(8,none)]⟩,⟨none,[(8,none)]⟩,⟨none,[(2,none),(28,some 1)]⟩,⟨none,[(29,some 2)]⟩,⟨none,[(8,none)]⟩,⟨none,[(31,some 4)]⟩,⟨none,[(32,some 5)]⟩,⟨none,[(6,none)]⟩,⟨none,[(30,some 3),(33,some 6),(34,some 7)]⟩,⟨none,[(35,some 8)]⟩,⟨none,[(26,some 9)]⟩,⟨none,[(26,some 9)]⟩,⟨none,[(7,none),(27,some 0)]⟩,⟨none,[(38,some 12),(36,some 10)]⟩,⟨none,[(37,some 11)]⟩] [] [11,14] kj kj kj (fun W hR=>trivial) fun F hF=>Qav (.int .i64 1) kj kj rfl (fun W=>kj) <| Qav (.int .i64 1) kj kj rfl (fun W=>kj) <| Qav (.pointer (some ⟨g3,1,none⟩)) kj kj rfl (fun W=>kj) <| QaO (.int .u64 v1) kj kj kj rfl (fun W hR=>(Qak 46 _ g3 1 97 _ (.int .u64 v1) _ (Qaa (Qaa r3_11 (Qae _)) hR) rfl kj kj kj)) <| Qav (.int .i64 1) kj kj rfl (fun W=>kj) <| Qav (.pointer (some ⟨3,1,none⟩)) kj kj rfl (fun W=>kj) ?_
  have r1_11:=(Puts.row p11 (Qaa (Puts.row p9 (Qaa r1_7 e8) (Qab r1_3 l8)) e10) (Qab hO l3))
  refine QaO (.int .u64 1503914060200516822) kj kj kj rfl (fun W hR=>(Qak 46 _ 3 1 tO _ (.int .u64 1503914060200516822) _ (Qaa (Qaa r1_11 (Qae _)) hR) rfl kj kj kj)) <| Qav (.int .u64 d0) kj kj rfl (fun W=>kj) <| Qav (.tuple #[.int .u64 u1,.int .u64 d1]) kj kj rfl (fun W=>(QbG (f:=89) (args:=#[.int .u64 v1,.int .u64 1503914060200516822,.int .u64 d0]) _ _ _ rfl kj kj (s1 _))) <| Qav (.tuple #[.int .u64 u1,.int .u64 d1]) kj kj rfl (fun W=>kj) <| Qav (.int .u64 u1) kj kj rfl (fun W=>kj) <| Qav (.int .u64 d1) kj kj rfl (fun W=>kj) <| Qav (.pointer (some ⟨g8,1,none⟩)) kj kj rfl (fun W=>kj) <| Qbt rfl <| Qav (.int .u64 d1) kj kj rfl (fun W=>kj) <| QcA (hF _ kj fun W12 e12=>?_)
  simp only [List.nil_append,List.cons_append,fins,up]
  clear hF
  have r8_12:=(Qaa (Puts.row p11 (Qaa r8_9 e10) (Qas r3_3 l8)) e12)
  refine Qbd _ g8 _ (ints .u64 ([u0,u1,m2,m3])) 97 r8_12 rfl (Qaz 46 _ _ g8 1 97 _ _ r8_12 rfl kj kj kj (Nat.lt_of_lt_of_eq (show 1<4 by decide) rfl.symm)) (fun W hp=>trivial) fun W13 p13 r8_13=>QbI <| hK18 _ _ <| sgA kj ?_
  show Code.rounds _ _ _ 3 _ _
  show Code.wp _ _ (Exit.then (Code.rounds _ _ _ 2) _) _ _
  refine sgB kj <| sgT kj <| wp_seq_k fun K23 hK23=>wp_block <| sgB kj <| wp_seq_k fun K25 hK25=>QaL (fun W=>True) [⟨none,[(8,none)]⟩,⟨none,[(8,none)]⟩,⟨none,[(2,none),(15,some 1)]⟩,⟨none,[(16,some 2)]⟩,⟨none,[(8,none)]⟩,⟨none,[(3,none),(18,some 4)]⟩,⟨none,[(19,some 5)]⟩,⟨none,[(5,none)]⟩,⟨none,[(17,some 3),(20,some 6),(21,some 7)]⟩,⟨none,[(22,some 8)]⟩,⟨none,[(13,some 9)]⟩,⟨none,[(13,some 9)]⟩,⟨none,[(2,none),(14,some 0)]⟩,⟨none,[(25,some 12),(23,some 10)]⟩,⟨none,[(24,some 11)]⟩] [] [11,14] kj kj kj (fun W hR=>trivial) fun F hF=>Qav (.int .i64 2) kj kj rfl (fun W=>kj) <| Qav (.int .i64 2) kj kj rfl (fun W=>kj) <| Qav (.pointer (some ⟨g3,2,none⟩)) kj kj rfl (fun W=>kj) ?_
  have r3_13:=(Puts.row p13 (Qaa r3_11 e12) (Qab r3_3 l8))
  refine QaO (.int .u64 m2) kj kj kj rfl (fun W hR=>(Qak 46 _ g3 2 97 _ (.int .u64 m2) _ (Qaa (Qaa r3_13 (Qae _)) hR) rfl kj kj kj)) <| Qav (.int .i64 2) kj kj rfl (fun W=>kj) <| Qav (.pointer (some ⟨g4,2,none⟩)) kj kj rfl (fun W=>kj) ?_
  have r4_13:=(Puts.row p13 (Qaa (Puts.row p11 (Qaa r4_9 e10) (Qas r3_1 l4)) e12) (Qab r4_3 l8))
  refine QaO (.int .u64 y2) kj kj kj rfl (fun W hR=>(Qak 46 _ g4 2 97 _ (.int .u64 y2) _ (Qaa (Qaa r4_13 (Qae _)) hR) rfl kj kj kj)) <| Qav (.int .u64 ca1) kj kj rfl (fun W=>kj) <| Qav (.tuple #[.int .u64 v2,.int .u64 ca2]) kj kj rfl (fun W=>(QbG (f:=88) (args:=#[.int .u64 m2,.int .u64 y2,.int .u64 ca1]) _ _ _ rfl kj kj (r2 _))) <| Qav (.tuple #[.int .u64 v2,.int .u64 ca2]) kj kj rfl (fun W=>kj) <| Qav (.int .u64 v2) kj kj rfl (fun W=>kj) <| Qav (.int .u64 ca2) kj kj rfl (fun W=>kj) <| Qav (.pointer (some ⟨g3,2,none⟩)) kj kj rfl (fun W=>kj) <| Qbt rfl <| Qav (.int .u64 ca2) kj kj rfl (fun W=>kj) <| QcA (hF _ kj fun W14 e14=>?_)
  simp only [List.nil_append,List.cons_append,fins,up]
  clear hF
  have r3_14:=(Qaa r3_13 e14)
  refine Qbd _ g3 _ (ints .u64 ([v0,v1,v2,m3])) 97 r3_14 rfl (Qaz 46 _ _ g3 2 97 _ _ r3_14 rfl kj kj kj (Nat.lt_of_lt_of_eq (show 2<4 by decide) rfl.symm)) (fun W hp=>trivial) fun W15 p15 r3_15=>QbI <| hK25 _ _ <| QaL (fun W=>True) [⟨none,[(8,none)]⟩,⟨none,[(8,none)]⟩,⟨none,[(2,none),(28,some 1)]⟩,⟨none,[(29,some 2)]⟩,⟨none,[(8,none)]⟩,⟨none,[(31,some 4)]⟩,⟨none,[(32,some 5)]⟩,⟨none,[(6,none)]⟩,⟨none,[(30,some 3),(33,some 6),(34,some 7)]⟩,⟨none,[(35,some 8)]⟩,⟨none,[(26,some 9)]⟩,⟨none,[(26,some 9)]⟩,⟨none,[(7,none),(27,some 0)]⟩,⟨none,[(38,some 12),(36,some 10)]⟩,⟨none,[(37,some 11)]⟩] [] [11,14] kj kj kj (fun W hR=>trivial) fun F hF=>Qav (.int .i64 2) kj kj rfl (fun W=>kj) <| Qav (.int .i64 2) kj kj rfl (fun W=>kj) <| Qav (.pointer (some ⟨g3,2,none⟩)) kj kj rfl (fun W=>kj) <| QaO (.int .u64 v2) kj kj kj rfl (fun W hR=>(Qak 46 _ g3 2 97 _ (.int .u64 v2) _ (Qaa (Qaa r3_15 (Qae _)) hR) rfl kj kj kj)) <| Qav (.int .i64 2) kj kj rfl (fun W=>kj) <| Qav (.pointer (some ⟨3,2,none⟩)) kj kj rfl (fun W=>kj) ?_
  have r1_15:=(Puts.row p15 (Qaa (Puts.row p13 (Qaa r1_11 e12) (Qab r1_3 l8)) e14) (Qab hO l3))
  refine QaO (.int .u64 0) kj kj kj rfl (fun W hR=>(Qak 46 _ 3 2 tO _ (.int .u64 0) _ (Qaa (Qaa r1_15 (Qae _)) hR) rfl kj kj kj)) <| Qav (.int .u64 d1) kj kj rfl (fun W=>kj) <| Qav (.tuple #[.int .u64 u2,.int .u64 d2]) kj kj rfl (fun W=>(QbG (f:=89) (args:=#[.int .u64 v2,.int .u64 0,.int .u64 d1]) _ _ _ rfl kj kj (s2 _))) <| Qav (.tuple #[.int .u64 u2,.int .u64 d2]) kj kj rfl (fun W=>kj) <| Qav (.int .u64 u2) kj kj rfl (fun W=>kj) <| Qav (.int .u64 d2) kj kj rfl (fun W=>kj) <| Qav (.pointer (some ⟨g8,2,none⟩)) kj kj rfl (fun W=>kj) <| Qbt rfl <| Qav (.int .u64 d2) kj kj rfl (fun W=>kj) <| QcA (hF _ kj fun W16 e16=>?_)
  simp only [List.nil_append,List.cons_append,fins,up]
  clear hF
  have r8_16:=(Qaa (Puts.row p15 (Qaa r8_13 e14) (Qas r3_3 l8)) e16)
  refine Qbd _ g8 _ (ints .u64 ([u0,u1,u2,m3])) 97 r8_16 rfl (Qaz 46 _ _ g8 2 97 _ _ r8_16 rfl kj kj kj (Nat.lt_of_lt_of_eq (show 2<4 by decide) rfl.symm)) (fun W hp=>trivial) fun W17 p17 r8_17=>QbI <| hK23 _ _ <| sgA kj ?_
  show Code.rounds _ _ _ 2 _ _
  show Code.wp _ _ (Exit.then (Code.rounds _ _ _ 1) _) _ _
  refine sgB kj <| sgT kj <| wp_seq_k fun K28 hK28=>wp_block <| sgB kj <| wp_seq_k fun K30 hK30=>QaL (fun W=>True) [⟨none,[(8,none)]⟩,⟨none,[(8,none)]⟩,⟨none,[(2,none),(15,some 1)]⟩,⟨none,[(16,some 2)]⟩,⟨none,[(8,none)]⟩,⟨none,[(3,none),(18,some 4)]⟩,⟨none,[(19,some 5)]⟩,⟨none,[(5,none)]⟩,⟨none,[(17,some 3),(20,some 6),(21,some 7)]⟩,⟨none,[(22,some 8)]⟩,⟨none,[(13,some 9)]⟩,⟨none,[(13,some 9)]⟩,⟨none,[(2,none),(14,some 0)]⟩,⟨none,[(25,some 12),(23,some 10)]⟩,⟨none,[(24,some 11)]⟩] [] [11,14] kj kj kj (fun W hR=>trivial) fun F hF=>Qav (.int .i64 3) kj kj rfl (fun W=>kj) <| Qav (.int .i64 3) kj kj rfl (fun W=>kj) <| Qav (.pointer (some ⟨g3,3,none⟩)) kj kj rfl (fun W=>kj) ?_
  have r3_17:=(Puts.row p17 (Qaa r3_15 e16) (Qab r3_3 l8))
  refine QaO (.int .u64 m3) kj kj kj rfl (fun W hR=>(Qak 46 _ g3 3 97 _ (.int .u64 m3) _ (Qaa (Qaa r3_17 (Qae _)) hR) rfl kj kj kj)) <| Qav (.int .i64 3) kj kj rfl (fun W=>kj) <| Qav (.pointer (some ⟨g4,3,none⟩)) kj kj rfl (fun W=>kj) <| QaO (.int .u64 y3) kj kj kj rfl (fun W hR=>(Qak 46 _ g4 3 97 _ (.int .u64 y3) _ (Qaa (Qaa (Puts.row p17 (Qaa (Puts.row p15 (Qaa r4_13 e14) (Qas r3_1 l4)) e16) (Qab r4_3 l8)) (Qae _)) hR) rfl kj kj kj)) <| Qav (.int .u64 ca2) kj kj rfl (fun W=>kj) <| Qav (.tuple #[.int .u64 v3,.int .u64 ca3]) kj kj rfl (fun W=>(QbG (f:=88) (args:=#[.int .u64 m3,.int .u64 y3,.int .u64 ca2]) _ _ _ rfl kj kj (r3 _))) <| Qav (.tuple #[.int .u64 v3,.int .u64 ca3]) kj kj rfl (fun W=>kj) <| Qav (.int .u64 v3) kj kj rfl (fun W=>kj) <| Qav (.int .u64 ca3) kj kj rfl (fun W=>kj) <| Qav (.pointer (some ⟨g3,3,none⟩)) kj kj rfl (fun W=>kj) ?_
  refine Qbt rfl <| Qav (.int .u64 ca3) kj kj rfl (fun W=>kj) <| QcA (hF _ kj fun W18 e18=>?_)
  simp only [List.nil_append,List.cons_append,fins,up]
  clear hF
  have r3_18:=(Qaa r3_17 e18)
  refine Qbd _ g3 _ (ints .u64 ([v0,v1,v2,v3])) 97 r3_18 rfl (Qaz 46 _ _ g3 3 97 _ _ r3_18 rfl kj kj kj (Nat.lt_of_lt_of_eq (show 3<4 by decide) rfl.symm)) (fun W hp=>trivial) fun W19 p19 r3_19=>QbI <| hK30 _ _ <| QaL (fun W=>True) [⟨none,[(8,none)]⟩,⟨none,[(8,none)]⟩,⟨none,[(2,none),(28,some 1)]⟩,⟨none,[(29,some 2)]⟩,⟨none,[(8,none)]⟩,⟨none,[(31,some 4)]⟩,⟨none,[(32,some 5)]⟩,⟨none,[(6,none)]⟩,⟨none,[(30,some 3),(33,some 6),(34,some 7)]⟩,⟨none,[(35,some 8)]⟩,⟨none,[(26,some 9)]⟩,⟨none,[(26,some 9)]⟩,⟨none,[(7,none),(27,some 0)]⟩,⟨none,[(38,some 12),(36,some 10)]⟩,⟨none,[(37,some 11)]⟩] [] [11,14] kj kj kj (fun W hR=>trivial) fun F hF=>Qav (.int .i64 3) kj kj rfl (fun W=>kj) <| Qav (.int .i64 3) kj kj rfl (fun W=>kj) <| Qav (.pointer (some ⟨g3,3,none⟩)) kj kj rfl (fun W=>kj) <| QaO (.int .u64 v3) kj kj kj rfl (fun W hR=>(Qak 46 _ g3 3 97 _ (.int .u64 v3) _ (Qaa (Qaa r3_19 (Qae _)) hR) rfl kj kj kj)) <| Qav (.int .i64 3) kj kj rfl (fun W=>kj) <| Qav (.pointer (some ⟨3,3,none⟩)) kj kj rfl (fun W=>kj) ?_
  refine QaO (.int .u64 1152921504606846976) kj kj kj rfl (fun W hR=>(Qak 46 _ 3 3 tO _ (.int .u64 1152921504606846976) _ (Qaa (Qaa (Puts.row p19 (Qaa (Puts.row p17 (Qaa r1_15 e16) (Qab r1_3 l8)) e18) (Qab hO l3)) (Qae _)) hR) rfl kj kj kj)) <| Qav (.int .u64 d2) kj kj rfl (fun W=>kj) <| Qav (.tuple #[.int .u64 u3,.int .u64 0]) kj kj rfl (fun W=>(QbG (f:=89) (args:=#[.int .u64 v3,.int .u64 1152921504606846976,.int .u64 d2]) _ _ _ rfl kj kj (s3 _))) <| Qav (.tuple #[.int .u64 u3,.int .u64 0]) kj kj rfl (fun W=>kj) <| Qav (.int .u64 u3) kj kj rfl (fun W=>kj) <| Qav (.int .u64 0) kj kj rfl (fun W=>kj) <| Qav (.pointer (some ⟨g8,3,none⟩)) kj kj rfl (fun W=>kj) <| Qbt rfl <| Qav (.int .u64 0) kj kj rfl (fun W=>kj) <| QcA (hF _ kj fun W20 e20=>?_)
  simp only [List.nil_append,List.cons_append,fins,up]
  clear hF
  have r8_20:=(Qaa (Puts.row p19 (Qaa r8_17 e18) (Qas r3_3 l8)) e20)
  refine Qbd _ g8 _ (ints .u64 ([u0,u1,u2,u3])) 97 r8_20 rfl (Qaz 46 _ _ g8 3 97 _ _ r8_20 rfl kj kj kj (Nat.lt_of_lt_of_eq (show 3<4 by decide) rfl.symm)) (fun W hp=>trivial) fun W21 p21 r8_21=>QbI <| hK28 _ _ <| sgA kj ?_
  show Code.rounds _ _ _ 1 _ _
  show Code.wp _ _ (Exit.then (Code.rounds _ _ _ 0) _) _ _
  refine sgB kj <| wp_seq_k fun K32 hK32=>cond_false kj <| wp_exit <| hK9 _ _ <| wp_seq_k fun K33 hK33=>sgB kj <| cond_false kj <| wp_skip <| hK33 _ _ ?_
  refine sgC fun K35 hK35=>Qag (.agg (ints .u64 ([u0,u1,u2,u3]))) 43 rfl kj (Qac 97 _ g8 97 _ _ r8_21 rfl kj kj (isz (n:=4) kj kj)) ?_
  have r3_2:=(Qaa r3_1 e2)
  have r5_21:=(Puts.row p21 (Qaa (Puts.row p19 (Qaa (Puts.row p17 (Qaa (Puts.row p15 (Qaa (Puts.row p13 (Qaa (Puts.row p11 (Qaa (Puts.row p9 (Qaa (Puts.row p7 (Qaa (Puts.row p5 (Qaa r5_3 e4) (Qab r5_3 l8)) e6) (Qas r3_2 l5)) e8) (Qab r5_3 l8)) e10) (Qas r3_2 l5)) e12) (Qab r5_3 l8)) e14) (Qas r3_2 l5)) e16) (Qab r5_3 l8)) e18) (Qas r3_2 l5)) e20) (Qab r5_3 l8))
  refine Qai g5 _ (ints .u64 ([u0,u1,u2,u3])) 97 r5_21 rfl kj (Qaf 97 _ _ g5 97 _ _ r5_21 rfl kj kj (isz (n:=4) kj kj) (eqsz (n:=4) kj kj) kj) fun W22 p22 r5_22=>sgN hK35 <| wp_ret ?_
  exact (show bodyPost _ _ _ .ret _ _ from ret1 (.agg (ints .u64 ([u0,u1,u2,u3]))) rfl (Qa8 g5 97 _ r5_22 kj kj (isz (n:=4) kj kj)) ⟨rfl,(Puts.ext p22 (Puts.ext p21 (Ext.tr (Puts.ext p19 (Ext.tr (Puts.ext p17 (Ext.tr (Puts.ext p15 (Ext.tr (Puts.ext p13 (Ext.tr (Puts.ext p11 (Ext.tr (Puts.ext p9 (Ext.tr (Puts.ext p7 (Ext.tr (Puts.ext p5 (Ext.tr x3 e4) b8) e6) b3) e8) b8) e10) b3) e12) b8) e14) b3) e16) b8) e18) b3) e20) b8) (qT x2.size l5))⟩)
end Go.Proofs.YtdoadngmgmdlbaaDoor.Field
end
