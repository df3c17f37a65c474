/- Texts of this claim, joined (B2). -/
import Derived.Test.YtdoadngmgmdlbaaDoorZB1
import Derived.Lib.LaidTab

set_option linter.unusedVariables false
set_option linter.unusedSimpArgs false
set_option maxHeartbeats 4000000
section
section
namespace Go.Proofs.YtdoadngmgmdlbaaDoor.Field
open Go Go.RowKit
open Rely
def lnum (n : Int):Value:=.agg (ints .i64 (lims n))
def big : Int:=115792089237316195423570985008687907853269984665640564039457584007913129639936
theorem QmM : (65536:Int)^16=big:=by decide
theorem QdH (xs : List Int) (h:xs.length=16):(Tryd.prog.info? 58).map (·.size)=some (ints .i64 xs).size:=by
  rw [Qaf,h]
  kernel_rfl
def Qch (x y:Int) (i:Nat):Int:=limb x i-limb y i
theorem Qhf (g h:Nat→Int):∀ k,pvf (fun i=>g i-h i) k=pvf g k-pvf h k
  | 0=>rfl
  | k+1=>by simp only [pvf]; rw [Qhf g h k,Int.sub_mul]; omega
theorem QeW (x y:Int) (hx:0≤x∧x<big) (hy:0≤y∧y<big):pvf (Qch x y) 16=x-y:=by
  have h:pvf (Qch x y) 16=pvf (limb x) 16-pvf (limb y) 16:=Qhf _ _ _
  rw [h,Qc8,Qc8,QmM,Int.emod_eq_of_lt hx.1 hx.2,Int.emod_eq_of_lt hy.1 hy.2]
theorem QfQ (x y:Int):∀ k,cr (Qch x y) k=0∨cr (Qch x y) k=-1
  | 0=>.inl (Qew _)
  | k+1=>by
    rw [←Qex]
    have:=Qba x k
    have:=Qba y k
    have h:=QfQ x y k
    unfold Qch at *
    omega
theorem Qi6 (x y:Int) (k:Nat) (hk:k<16) (e:pvf (Qch x y) 16=x-y) :
    (limb x k-limb y k - -(cr (Qch x y) k)<0→limb x k-limb y k - -(cr (Qch x y) k)+65536=limb (x-y) k∧(1:Int)=-(cr (Qch x y) (k+1))) ∧
    (¬ limb x k-limb y k - -(cr (Qch x y) k)<0→limb x k-limb y k - -(cr (Qch x y) k)=limb (x-y) k∧(0:Int)=-(cr (Qch x y) (k+1))):=by
  have h1:=QcO (Qch x y) k 16 hk
  have h2:=Qex (Qch x y) k
  have h3:=Qba x k
  have h4:=Qba y k
  have h5:=QfQ x y k
  rw [e] at h1
  unfold Qch at *
  generalize limb (x-y) k=r at *
  generalize cr (fun i=>limb x i-limb y i) k=c at *
  omega
theorem minus (x y:Int) (hy:0≤y) (hxy:y≤x) (hx:x<big) (w:World):Calls Tryd.prog 84 #[lnum x,lnum y] w (Ret w (lnum (x-y))):=by
  have e:=QeW x y (by omega) (by omega)
  unfold lnum
  go_enter Tryd.func84,Tryd.ntmps84
  go_wp2_with fail
  go_loopw [5,6] (fun c i wr=>∃ k:Nat,k≤16∧i=.int .i64 k∧c=.int .i64 (-(cr (Qch x y) k))∧Ext w wr∧wr.heap[w.heap.size]? = some (.cells (ints .i64 (mix 16 (limb (x-y)) (limb x) k)) 58) ∧
      wr.heap[w.heap.size+1]? = some (.cells (ints .i64 (lims y)) 58)∧∃ b,b.size=16∧wr.heap[w.heap.size+1+1]? = some (.cells b 58)) (fun _ i _=>16-(intOf i).toNat)
  case atStart=>exact ⟨0,by omega,rfl,by rw [Qew]; rfl,ext3 _ _ _ _,by rw [QfM]; exact Qey _ _ _ _,Qcx _ _ _ _,_,rfl,Qb5 _ _ _ _⟩
  case round =>
    obtain ⟨k,hk,rfl,rfl,he,hA,hB,b,hbs,hC⟩:=hrel
    by_cases hlt:k<16
    · have hX:(ints .i64 (mix 16 (limb (x-y)) (limb x) k))[k]? = some (.int .i64 (limb x k)):=by rw [Qaw _ _ _ (by rw [mix_len]; exact hlt),QcH _ _ _ _ _ hlt,if_neg (by omega)]
      have hY:(ints .i64 (lims y))[k]? = some (.int .i64 (limb y k)):=by rw [Qaw _ _ _ (by rw [Qbf]; exact hlt),QfP _ _ hlt]
      have hS:(ints .i64 (mix 16 (limb (x-y)) (limb x) k)).setIfInBounds k (.int .i64 (limb (x-y) k))=ints .i64 (mix 16 (limb (x-y)) (limb x) (k+1)):=by rw [QbA,mix_set _ _ _ _ hlt]
      have HR:=Lib.hid (Qi6 x y k hlt e)
      have h3:=Qba x k
      have h4:=Qba y k
      have h5:=QfQ x y k
      generalize hc:cr (Qch x y) k=c at *
      generalize hc':cr (Qch x y) (k+1)=c' at *
      generalize hlx:limb x k=lx at *
      generalize hly:limb y k=ly at *
      have w1:IntKind.i64.wrap (lx-ly)=lx-ly:=IntWalk.i64_in _ (by omega)
      have w2:IntKind.i64.wrap (lx-ly - -c)=lx-ly - -c:=IntWalk.i64_in _ (by omega)
      have w3:lx-ly - -c<0→IntKind.i64.wrap (lx-ly - -c+65536)=lx-ly - -c+65536:=fun h=>IntWalk.i64_in _ (by omega)
      have HX:Hid (∀ W,Ext wr.drew W→W.cell? ⟨w.heap.size,k,none⟩=some (.int .i64 lx)):=Lib.hid fun W hR=>QaE (Qaa (Qaa hA (Qah _)) hR) hX
      have HY:Hid (∀ W,Ext wr.drew W→W.cell? ⟨w.heap.size+1,k,none⟩=some (.int .i64 ly)):=Lib.hid fun W hR=>QaE (Qaa (Qaa hB (Qah _)) hR) hY
      go_wp2
      refine Qa4 Ext 9 29 [⟨none,[(6,none)]⟩,⟨none,[(2,none),(12,some 0)]⟩,⟨none,[(13,some 1)]⟩,⟨none,[(6,none)]⟩,⟨none,[(3,none),(15,some 3)]⟩,⟨none,[(16,some 4)]⟩,⟨none,[(14,some 2),(17,some 5)]⟩,⟨none,[(5,none)]⟩,⟨none,[(18,some 6),(19,some 7)]⟩] kj kj rfl Ext.refl Ext.trans (fun F r0 hr hF=>?_)
      have f2:r0 2=.pointer (some ⟨w.heap.size,0,none⟩):=by rw [hr]; rfl
      have f3:r0 3=.pointer (some ⟨w.heap.size+1,0,none⟩):=by rw [hr]; rfl
      have f5:r0 5=.int .i64 (-c):=by rw [hr]; rfl
      have f6:r0 6=.int .i64 k:=by rw [hr]; rfl
      clear hr
      simp only [List.take_succ_cons,List.take_zero]
      repeat
        (try simp only [List.cons_append,List.nil_append]
         apply Qas
         (intro ρ W hR hh
          have hcx:=HX.out W hR
          have hcy:=HY.out W hR
          simp only [QbJ,List.getD_cons_zero,List.getD_cons_succ,f2,f3,f5,f6] at hh
          simp only [guarded,QaN]
          go_simp
          first
            | exact ⟨Ext.refl _,rfl⟩
            | exact Ext.refl _))
      simp only [List.cons_append,List.nil_append]
      refine hF.out fun W hRW=>?_
      simp only [List.take_succ_cons,List.take_zero,List.drop_succ_cons,List.drop_zero,fin,forall_eq,Act.put,List.setIfInBounds_toArray,List.set_cons_zero,List.set_cons_succ]
      clear HX HY hF f2 f3 f5 f6
      have hE:=Ext.trans (Qah wr) hRW
      have hA':=Qaa hA hE
      have hB':=Qaa hB hE
      have hC':=Qaa hC hE
      have hcx:=QaE hA' hX
      have hfx:=Qb4 hA' k
      go_wp2
      all_goals
        have hR:=HR.out
        clear HR
        refine ⟨⟨k+1,by omega,by go_num,?_,QcI (Ext.trans he hE) (qR _) _ _,(QcF _ _ hA').trans ?_,(QaI _ _ (by omega)).trans hB',b,hbs,(QaI _ _ (by omega)).trans hC'⟩,by simp [intOf]; omega⟩
      · rw [hc',(hR.1 (by omega)).2]
      · rw [show lx-ly+c+65536=limb (x-y) k by have:=(hR.1 (by omega)).1; omega,hS]
      · rw [hc',(hR.2 (by omega)).2]
      · rw [show lx-ly+c=limb (x-y) k by have:=(hR.2 (by omega)).1; omega,hS]
    · obtain rfl:k=16:=by omega
      go_wp2_with first
        | (with_reducible show wpList _ _ _ ((⟨_,.load 58 _,_,_,_,_⟩:Oper)::_) _ _
           refine wpList_load_row rfl 58 _ rfl w.heap.size rfl 58 _ (0,0) _ hA Tryd.underlying58 rfl (QdH _ (mix_len _ _ _ _)) ?_)
        | (with_reducible show wpList _ _ _ ((⟨_,.store 58 _ _,_,_,_,_⟩:Oper)::_) _ _
           refine wpList_store_row rfl 58 _ _ rfl (w.heap.size+1+1) _ rfl rfl 58 _ hC (QdH _ (mix_len _ _ _ _)) (by rw [hbs,Qaf,mix_len]) (ints_one _ _) ?_)
      exact bodyPost_ret (results_cell_row (p:=4) rfl _ _ (w.heap.size+1+1) 58 _ (0,0) _ rfl (setRow_heap _ _ _ _ _ _ hC) Tryd.underlying58 rfl (QdH _ (mix_len _ _ _ _))) rfl ⟨by rw [QfN _ _ _ _ (qR _)]; rfl,QaU he (by omega) _⟩
end Go.Proofs.YtdoadngmgmdlbaaDoor.Field
end
section
namespace Go.Proofs.YtdoadngmgmdlbaaDoor.Field
open Go Go.RowKit
open Rely
theorem prime (w : World):Calls Tryd.prog 85 #[] w (Ret w (lnum p)):=by
  have e0:lims p=[65517,65535,65535,65535,65535,65535,65535,65535,65535,65535,65535,65535,65535,65535,65535,32767]:=by decide +kernel
  have e:ints .i64 (lims p)=#[.int .i64 65517,.int .i64 65535,.int .i64 65535,.int .i64 65535,.int .i64 65535,.int .i64 65535,.int .i64 65535,.int .i64 65535,.int .i64 65535,.int .i64 65535,.int .i64 65535,.int .i64 65535,.int .i64 65535,.int .i64 65535,.int .i64 65535,.int .i64 32767]:=by
    rw [e0]; rfl
  have hi:=QdH (lims p) (Qbf p)
  unfold lnum
  rw [e]
  rw [e] at hi
  clear e e0
  go_enter Tryd.func85,Tryd.ntmps85
  go_wp2_with fail
  exact bodyPost_ret (results_cell_row (p:=0) rfl _ _ w.heap.size 58 _ (0,0) _ rfl (heap_alloc_new _ _) Tryd.underlying58 rfl hi) rfl ⟨rfl,Qa8 _ _⟩
theorem QeD (g : Nat→Int) (k:Nat):∀ n,k≤n→(∀ j,k≤j→j<n→g j=0)→pvf g n=pvf g k
  | 0,h,_=>by
      obtain rfl:k=0:=by omega
      rfl
  | n+1,h,hz=>by
    rcases Nat.lt_or_ge n k with h1 | h1
    · obtain rfl:k=n+1:=by omega
      rfl
    · rw [pvf,hz n h1 (by omega),QeD g k n h1 fun j a b=>hz j a (by omega)]
      simp
theorem Qj4 (x y:Int) (k:Nat):-(65536^k)<pvf (Qch x y) k∧pvf (Qch x y) k<65536^k:=by
  have h:pvf (Qch x y) k=pvf (limb x) k-pvf (limb y) k:=Qhf _ _ _
  have hp:=Qfq k
  have h1:=Int.emod_nonneg x (Int.ne_of_gt hp)
  have h2:=Int.emod_lt_of_pos x hp
  have h3:=Int.emod_nonneg y (Int.ne_of_gt hp)
  have h4:=Int.emod_lt_of_pos y hp
  rw [h,Qc8,Qc8]
  omega
theorem QgY (x y:Int) (hx:0≤x∧x<big) (hy:0≤y∧y<big) (k:Nat) (hk:k<16) (hi:∀ j,k+1≤j→j<16→limb x j=limb y j) (hd:limb x k≠limb y k) :
    decide (limb x k>limb y k)=decide (y≤x):=by
  have e:=QeW x y hx hy
  rw [QeD (Qch x y) (k+1) 16 (by omega) fun j a b=>by unfold Qch; rw [hi j a b]; omega,pvf] at e
  have hl:=Qj4 x y k
  have hp:=Qfq k
  refine decide_eq_decide.2 ⟨fun h=>?_,fun h=>?_⟩
  · have h1:1*65536^k≤Qch x y k*65536^k:=Int.mul_le_mul_of_nonneg_right (by unfold Qch; omega) (Int.le_of_lt hp)
    omega
  · rcases (by omega:limb x k>limb y k∨limb x k<limb y k) with h0 | h0
    · exact h0
    · have h1:Qch x y k*65536^k≤-1*65536^k:=Int.mul_le_mul_of_nonneg_right (by unfold Qch; omega) (Int.le_of_lt hp)
      omega
theorem Qkn (x y:Int) (hx:0≤x∧x<big) (hy:0≤y∧y<big) (hi:∀ j,0≤j→j<16→limb x j=limb y j):x=y:=by
  have e:=QeW x y hx hy
  rw [QeD (Qch x y) 0 16 (by omega) fun j a b=>by unfold Qch; rw [hi j (by omega) b]; omega,pvf] at e
  omega
theorem Qh2 (x y:Int) (hx:0≤x∧x<big) (hy:0≤y∧y<big) (w:World):Calls Tryd.prog 98 #[lnum x,lnum y] w (Ret w (.bool (decide (y≤x)))):=by
  unfold lnum
  go_enter Tryd.func98,Tryd.ntmps98
  go_wp2_with fail
  go_loopw [5] (fun i wr=>∃ k:Nat,k≤16∧i=.int .i64 ((k:Int)-1)∧(∀ j,k≤j→j<16→limb x j=limb y j)∧Ext w wr∧wr.heap[w.heap.size]? = some (.cells (ints .i64 (lims x)) 58) ∧
      wr.heap[w.heap.size+1]? = some (.cells (ints .i64 (lims y)) 58)) (fun i _=>(intOf i+1).toNat)
  case atStart=>exact ⟨16,by omega,rfl,fun j h1 h2=>by omega,Ext.trans (Qa8 _ _) (Qa8 _ _),by rw [Below.heap_alloc _ _ _ (by simp)]; exact heap_alloc_new _ _,by have:=heap_alloc_new (w.alloc (.cells (ints .i64 (lims x)) 58)) (.cells (ints .i64 (lims y)) 58); simpa using this⟩
  case round =>
    obtain ⟨k,hk,rfl,hi,he,hA,hB⟩:=hrel
    rcases k with _ | j
    · have e:=Qkn x y hx hy hi
      go_wp2
      exact bodyPost_ret (results_tmp rfl _ _ _) rfl ⟨by rw [e]; simp,he⟩
    · have hlt:j<16:=by omega
      have q0:(0:Int)≤(j:Int):=by omega
      have q1:(j:Int)<16:=by omega
      have hX:(ints .i64 (lims x))[j]? = some (.int .i64 (limb x j)):=by rw [Qaw _ _ _ (by rw [Qbf]; exact hlt),QfP _ _ hlt]
      have hY:(ints .i64 (lims y))[j]? = some (.int .i64 (limb y j)):=by rw [Qaw _ _ _ (by rw [Qbf]; exact hlt),QfP _ _ hlt]
      rw [show ((j+1:Nat):Int)-1=(j:Int) by omega]
      have HT:=Lib.hid (QgY x y hx hy j hlt hi)
      have HI:=Lib.hid hi
      clear hi
      generalize hlx:limb x j=lx at *
      generalize hly:limb y j=ly at *
      have HX:Hid (∀ W,Ext wr.drew W→W.cell? ⟨w.heap.size,j,none⟩=some (.int .i64 lx)):=Lib.hid fun W hR=>QaE (Qaa (Qaa hA (Qah _)) hR) hX
      have HY:Hid (∀ W,Ext wr.drew W→W.cell? ⟨w.heap.size+1,j,none⟩=some (.int .i64 ly)):=Lib.hid fun W hR=>QaE (Qaa (Qaa hB (Qah _)) hR) hY
      go_wp2
      refine Qa4 Ext 6 24 [⟨none,[(5,none)]⟩,⟨none,[(2,none),(10,some 0)]⟩,⟨none,[(11,some 1)]⟩,⟨none,[(5,none)]⟩,⟨none,[(3,none),(13,some 3)]⟩,⟨none,[(14,some 4)]⟩] kj kj rfl Ext.refl Ext.trans (fun F r0 hr hF=>?_)
      have f2:r0 2=.pointer (some ⟨w.heap.size,0,none⟩):=by rw [hr]; rfl
      have f3:r0 3=.pointer (some ⟨w.heap.size+1,0,none⟩):=by rw [hr]; rfl
      have f5:r0 5=.int .i64 j:=by rw [hr]; rfl
      clear hr
      simp only [List.take_succ_cons,List.take_zero]
      repeat
        (try simp only [List.cons_append,List.nil_append]
         apply Qas
         (intro ρ W hR hh
          have hcx:=HX.out W hR
          have hcy:=HY.out W hR
          simp only [QbJ,List.getD_cons_zero,List.getD_cons_succ,f2,f3,f5] at hh
          simp only [guarded,QaN]
          go_simp
          first
            | exact ⟨Ext.refl _,rfl⟩
            | exact Ext.refl _))
      simp only [List.cons_append,List.nil_append]
      refine hF.out fun W hRW=>?_
      simp only [List.take_succ_cons,List.take_zero,List.drop_succ_cons,List.drop_zero,fin,forall_eq,Act.put,List.setIfInBounds_toArray,List.set_cons_zero,List.set_cons_succ]
      clear HX HY hF f2 f3 f5
      have hE:=Ext.trans (Qah wr) hRW
      have hA':=Qaa hA hE
      have hB':=Qaa hB hE
      have HX:Hid (∀ V,Ext W.drew V→V.cell? ⟨w.heap.size,j,none⟩=some (.int .i64 lx)):=Lib.hid fun V hR=>QaE (Qaa (Qaa hA' (Qah _)) hR) hX
      have HY:Hid (∀ V,Ext W.drew V→V.cell? ⟨w.heap.size+1,j,none⟩=some (.int .i64 ly)):=Lib.hid fun V hR=>QaE (Qaa (Qaa hB' (Qah _)) hR) hY
      go_wp2
      · have hne:lx≠ly:=by
          have h:(lx != ly)=true:=by assumption
          simpa using h
        refine Qa4 Ext 7 24 [⟨none,[(5,none)]⟩,⟨none,[(2,none),(17,some 0)]⟩,⟨none,[(18,some 1)]⟩,⟨none,[(5,none)]⟩,⟨none,[(3,none),(20,some 3)]⟩,⟨none,[(21,some 4)]⟩,⟨none,[(19,some 2),(22,some 5)]⟩] kj kj rfl Ext.refl Ext.trans (fun F r0 hr hF=>?_)
        have f2:r0 2=.pointer (some ⟨w.heap.size,0,none⟩):=by rw [hr]; rfl
        have f3:r0 3=.pointer (some ⟨w.heap.size+1,0,none⟩):=by rw [hr]; rfl
        have f5:r0 5=.int .i64 j:=by rw [hr]; rfl
        clear hr
        simp only [List.take_succ_cons,List.take_zero]
        repeat
          (try simp only [List.cons_append,List.nil_append]
           apply Qas
           (intro ρ V hR hh
            have hcx:=HX.out V hR
            have hcy:=HY.out V hR
            simp only [QbJ,List.getD_cons_zero,List.getD_cons_succ,f2,f3,f5] at hh
            simp only [guarded,QaN]
            go_simp
            first
              | exact ⟨Ext.refl _,rfl⟩
              | exact Ext.refl _))
        simp only [List.cons_append,List.nil_append]
        refine hF.out fun V hRV=>?_
        simp only [List.take_succ_cons,List.take_zero,List.drop_succ_cons,List.drop_zero,fin,forall_eq,Act.put,List.setIfInBounds_toArray,List.set_cons_zero,List.set_cons_succ]
        go_wp2
        exact bodyPost_ret (results_tmp rfl _ _ _) rfl ⟨by rw [←HT.out hne]; rfl,Ext.trans (Ext.trans (Ext.trans he hE) (Qah _)) hRV⟩
      · have heq:lx=ly:=by
          first
            | (have h:(lx != ly)=false:=by assumption
               simpa using h)
            | (have h:¬ ((lx != ly)=true):=by assumption
               simpa using h)
        refine ⟨⟨j,by omega,rfl,fun i h1 h2=>?_,Ext.trans he hE,hA',hB'⟩,by simp [intOf]⟩
        rcases (by omega:i=j∨j+1≤i) with rfl | h
        · rw [hlx,hly]; exact heq
        · exact HI.out i h h2
end Go.Proofs.YtdoadngmgmdlbaaDoor.Field
end
section
namespace Go.Proofs.YtdoadngmgmdlbaaDoor.Field
open Go Go.RowKit
open Rely
def it : Nat→Int→Int
  | 0,n=>n
  | r+1,n=>Qbx (it r n)
theorem QkO (n : Int) (h:0≤n∧n<65536^32) (r:Nat) (hr:r<4):0≤it r n∧it r n<65536^32:=by
  have f:=four n h
  rcases (by omega:r=0∨r=1∨r=2∨r=3) with rfl | rfl | rfl | rfl
  · exact h
  · exact ⟨f.1,f.2.1⟩
  · exact ⟨f.2.2.1,f.2.2.2.1⟩
  · exact ⟨f.2.2.2.2.1,f.2.2.2.2.2.1⟩
theorem Qm3 (n : Int) (h:0≤n∧n<65536^32):0≤it 4 n∧it 4 n<65536^16∧it 4 n%57896044618658097711785492504343953926634992332820282019728792003956564819949=n%57896044618658097711785492504343953926634992332820282019728792003956564819949:=by
  have f:=four n h
  exact ⟨f.2.2.2.2.2.2.1,f.2.2.2.2.2.2.2.1,f.2.2.2.2.2.2.2.2⟩
def fmix (S : Int) (k:Nat):List Int:=(List.range 32).map fun i=>if i<k then Qck S i else if 16≤i∧i<16+k then 0 else limb S i
theorem QhX (S : Int) (k:Nat):(fmix S k).length=32:=by simp [fmix]
theorem QhW (S : Int) (k i:Nat) (hi:i<32):nth (fmix S k) i=if i<k then Qck S i else if 16≤i∧i<16+k then 0 else limb S i:=by simp [nth,fmix,hi]
theorem QjA (S : Int):fmix S 0=(List.range 32).map (limb S):=by
  unfold fmix
  refine List.map_congr_left fun i hi=>?_
  rw [if_neg (by omega),if_neg (by omega)]
theorem QjB (S : Int):fmix S 16=(List.range 32).map (Qck S):=by
  unfold fmix
  refine List.map_congr_left fun i hi=>?_
  have:=List.mem_range.1 hi
  by_cases h:i<16
  · rw [if_pos h]
  · rw [if_neg h,if_pos (by omega)]
    unfold Qck
    rw [if_neg h]
theorem QkX (S : Int) (k:Nat) (hk:k<16):((fmix S k).set k (limb S k+38*limb S (k+16))).set (k+16) 0=fmix S (k+1):=by
  apply List.ext_getElem
  · simp [fmix]
  · intro i h1 h2
    simp only [fmix,List.getElem_set,List.getElem_map,List.getElem_range]
    rcases (by omega:i=k+16∨i=k∨i<k∨(k<i∧i<16)∨(16≤i∧i<16+k)∨16+k<i) with h | h | h | h | h | h
    · subst h
      rw [if_pos rfl,if_neg (show ¬ k+16<k+1 by omega),if_pos (show 16≤k+16∧k+16<16+(k+1) by omega)]
    · subst h
      rw [if_neg (show ¬ i+16=i by omega),if_pos rfl,if_pos (show i<i+1 by omega)]
      unfold Qck
      rw [if_pos hk]
    · rw [if_neg (show ¬ k+16=i by omega),if_neg (show ¬ k=i by omega),if_pos h,if_pos (show i<k+1 by omega)]
    · rw [if_neg (show ¬ k+16=i by omega),if_neg (show ¬ k=i by omega),if_neg (show ¬ i<k by omega),if_neg (show ¬ i<k+1 by omega),if_neg (show ¬ (16≤i∧i<16+k) by omega),if_neg (show ¬ (16≤i∧i<16+(k+1)) by omega)]
    · rw [if_neg (show ¬ k+16=i by omega),if_neg (show ¬ k=i by omega),if_neg (show ¬ i<k by omega),if_neg (show ¬ i<k+1 by omega),if_pos (show (16≤i∧i<16+k) by omega),if_pos (show (16≤i∧i<16+(k+1)) by omega)]
    · rw [if_neg (show ¬ k+16=i by omega),if_neg (show ¬ k=i by omega),if_neg (show ¬ i<k by omega),if_neg (show ¬ i<k+1 by omega),if_neg (show ¬ (16≤i∧i<16+k) by omega),if_neg (show ¬ (16≤i∧i<16+(k+1)) by omega)]
def out5 (S : Int) (i:Nat):Int:=if i=15 then limb S 15%32768 else limb S i
def g5 (S : Int) (i:Nat):Int:=out5 S i+(if i=0 then 19*(limb S 15/32768) else 0)
def S5 (S : Int):Int:=S%57896044618658097711785492504343953926634992332820282019728792003956564819968+19*(S/57896044618658097711785492504343953926634992332820282019728792003956564819968)
theorem Qgv (c : Int):∀ k,pvf (fun i=>if i=0 then c else 0) (k+1)=c
  | 0=>by simp [pvf]
  | k+1=>by
    rw [pvf,Qgv c k]
    simp
theorem QnB (S : Int) (h:0≤S∧S<65536^16):pvf (g5 S) 16=S5 S:=by
  have e1:pvf (g5 S) 16=pvf (out5 S) 16+pvf (fun i=>if i=0 then 19*(limb S 15/32768) else 0) 16:=Qhg _ _ _
  have e2:pvf (fun i=>if i=0 then 19*(limb S 15/32768) else 0) 16=19*(limb S 15/32768):=Qgv _ 15
  have e3:pvf (out5 S) 15=pvf (limb S) 15:=Qdj (n:=15) (fun i hi=>by unfold out5; rw [if_neg (by omega)]) 15 (qR _)
  have e4:pvf (out5 S) 16=pvf (out5 S) 15+out5 S 15*65536^15:=rfl
  rw [e1,e2,e4,e3,Qc8]
  unfold out5 S5 limb
  rw [if_pos rfl]
  have f1:(65536:Int)^15=1766847064778384329583297500742918515827483896875618958121606201292619776:=by decide
  have f2:(65536:Int)^16=115792089237316195423570985008687907853269984665640564039457584007913129639936:=by decide
  rw [f1]
  rw [f2] at h
  omega
theorem Qi0 (S : Int) (i:Nat):0≤out5 S i∧out5 S i<65536:=by
  unfold out5
  have h1:=Qba S i
  have h2:=Qba S 15
  split <;> omega
theorem QnL (S : Int) (h:0≤S∧S<65536^16):0≤S5 S∧S5 S<57896044618658097711785492504343953926634992332820282019728792003956564820006 ∧
    S5 S%57896044618658097711785492504343953926634992332820282019728792003956564819949=S%57896044618658097711785492504343953926634992332820282019728792003956564819949:=by
  have f2:(65536:Int)^16=115792089237316195423570985008687907853269984665640564039457584007913129639936:=by decide
  rw [f2] at h
  unfold S5
  omega
theorem QkM (V : Int) (h0:0≤V) (h:V<57896044618658097711785492504343953926634992332820282019728792003956564820006) :
    (57896044618658097711785492504343953926634992332820282019728792003956564819949≤V→V-57896044618658097711785492504343953926634992332820282019728792003956564819949=V%57896044618658097711785492504343953926634992332820282019728792003956564819949) ∧
    (¬ 57896044618658097711785492504343953926634992332820282019728792003956564819949≤V→V=V%57896044618658097711785492504343953926634992332820282019728792003956564819949):=by omega
def M : Int:=1125899906842624
theorem small (xs : List Int) (hl:xs.length=32) (hr:∀ i,i<32→0≤nth xs i∧nth xs i≤M) (h0:0≤pvf (nth xs) 32∧pvf (nth xs) 32<65536^32) (w:World) :
    Calls Tryd.prog 86 #[.agg (ints .i64 xs)] w (Ret w (lnum (pvf (nth xs) 32%p))):=by
  generalize hn:pvf (nth xs) 32=n at *
  have hit:=QkO n h0
  have hfour:=Qm3 n h0
  go_enter Tryd.func86,Tryd.ntmps86
  go_wp2_with fail
  go_loopw [4] (fun i wr=>∃ r:Nat,r≤4∧i=.int .i64 r∧Ext w wr∧∃ g:Nat→Int,(∀ i,i<32→0≤g i∧g i≤M)∧pvf g 32=it r n∧(1≤r→∀ i,16≤i→g i=0) ∧
      wr.heap[w.heap.size]? = some (.cells (ints .i64 ((List.range 32).map g)) 116)∧(∃ b,b.size=16∧wr.heap[w.heap.size+1]? = some (.cells b 58)) ∧
      wr.heap[w.heap.size+1+1]? = some (.cells (ints .i64 (List.replicate 16 0)) 58)) (fun i _=>4-(intOf i).toNat)
  case atStart=>exact ⟨0,by omega,rfl,ext3 _ _ _ _,nth xs,hr,hn,fun h=>by omega,by rw [Qji _ _ hl]; exact Qey _ _ _ _,⟨_,rfl,Qcx _ _ _ _⟩,Qb5 _ _ _ _⟩
  case round =>
    obtain ⟨r,hr4,rfl,he,g,hg,hgv,hgz,hA,⟨b,hbs,hB⟩,hC⟩:=hrel
    by_cases hlt:r<4
    · clear hgz hfour hr hn hl h0
      have hS:=hit r hlt
      go_wp2
      go_loopw [5,6] (fun c i wq=>∃ k:Nat,k≤32∧i=.int .i64 k∧c=.int .i64 (cr g k)∧Ext w wq∧wq.heap[w.heap.size]? = some (.cells (ints .i64 (mix 32 (limb (it r n)) g k)) 116)∧wq.heap[w.heap.size+1]? = some (.cells b 58) ∧
        wq.heap[w.heap.size+1+1]? = some (.cells (ints .i64 (List.replicate 16 0)) 58)) (fun _ i _=>32-(intOf i).toNat)
      case atStart=>exact ⟨0,by omega,rfl,by rw [Qew],he,by rw [QfM]; exact hA,hB,hC⟩
      case round =>
        clear hA hB hC he
        obtain ⟨k,hk,rfl,rfl,he,hA,hB,hC⟩:=hrel
        by_cases hk32:k<32
        · have hX:(ints .i64 (mix 32 (limb (it r n)) g k))[k]? = some (.int .i64 (g k)):=by rw [Qaw _ _ _ (by rw [mix_len]; exact hk32),QcH _ _ _ _ _ hk32,if_neg (by omega)]
          have hS1:(ints .i64 (mix 32 (limb (it r n)) g k)).setIfInBounds k (.int .i64 (limb (it r n) k))=ints .i64 (mix 32 (limb (it r n)) g (k+1)):=by rw [QbA,mix_set _ _ _ _ hk32]
          have e1:=QcO g k 32 hk32
          have e2:=Qex g k
          have b1:=hg k hk32
          have b2:=QfZ g M 32 (by decide) hg k (by omega)
          rw [hgv] at e1
          unfold M at b1 b2
          generalize hcn:cr g (k+1)=cn at *
          generalize hcc:cr g k=cc at *
          generalize hgg:g k=gk at *
          have hcx:=QaE hA hX
          have hfx:=Qb4 hA k
          have w1:IntKind.i64.wrap (gk+cc)=gk+cc:=IntWalk.i64_in _ (by omega)
          have w2:(gk+cc).tmod 65536=(gk+cc)%65536:=Int.tmod_eq_emod_of_nonneg (by omega)
          have w3:IntKind.i64.wrap ((gk+cc)%65536)=(gk+cc)%65536:=IntWalk.i64_in _ (by omega)
          have w4:(gk+cc).tdiv 65536=(gk+cc)/65536:=Int.tdiv_eq_ediv_of_nonneg (by omega)
          have w5:IntKind.i64.wrap ((gk+cc)/65536)=(gk+cc)/65536:=IntWalk.i64_in _ (by omega)
          have HG:=Lib.hid hg
          clear hg
          go_wp2
          exact ⟨⟨k+1,by omega,by go_num,by rw [hcn],QcI he (qR _) _ _,(QcF _ _ hA).trans (by rw [hS1]),(QaI _ _ (by omega)).trans hB,(QaI _ _ (by omega)).trans hC⟩,by simp [intOf]; omega⟩
        · obtain rfl:k=32:=by omega
          rw [QfN _ _ _ _ (qR _),←QjA] at hA
          have HS:=Lib.hid hS
          have HG:=Lib.hid hgv
          clear hS hgv hg hit
          go_wp2
          go_loopw [8] (fun i wq=>∃ k:Nat,k≤16∧i=.int .i64 k∧Ext w wq∧wq.heap[w.heap.size]? = some (.cells (ints .i64 (fmix (it r n) k)) 116)∧wq.heap[w.heap.size+1]? = some (.cells b 58) ∧
            wq.heap[w.heap.size+1+1]? = some (.cells (ints .i64 (List.replicate 16 0)) 58)) (fun i _=>16-(intOf i).toNat)
          case atStart=>exact ⟨0,by omega,rfl,he,hA,hB,hC⟩
          case round =>
            clear hA hB hC he
            obtain ⟨k,hk,rfl,he,hA,hB,hC⟩:=hrel
            by_cases hk16:k<16
            · have hX:(ints .i64 (fmix (it r n) k))[k]? = some (.int .i64 (limb (it r n) k)):=by rw [Qaw _ _ _ (by rw [QhX]; omega),QhW _ _ _ (by omega),if_neg (by omega),if_neg (by omega)]
              have hY:(ints .i64 (fmix (it r n) k))[k+16]? = some (.int .i64 (limb (it r n) (k+16))):=by rw [Qaw _ _ _ (by rw [QhX]; omega),QhW _ _ _ (by omega),if_neg (by omega),if_neg (by omega)]
              have hS1:((ints .i64 (fmix (it r n) k)).setIfInBounds k (.int .i64 (limb (it r n) k+38*limb (it r n) (k+16)))).setIfInBounds (k+16) (.int .i64 0)=ints .i64 (fmix (it r n) (k+1)):=by rw [QbA,QbA,QkX _ _ hk16]
              have b1:=Qba (it r n) k
              have b2:=Qba (it r n) (k+16)
              generalize hlx:limb (it r n) k=lx at *
              generalize hly:limb (it r n) (k+16)=ly at *
              have q1:IntKind.i64.wrap ((k:Int)+16)=(k:Int)+16:=IntWalk.i64_in _ (by omega)
              have q2:((k:Int)+16).toNat=k+16:=by omega
              have q3:(0:Int)≤(k:Int)+16:=by omega
              have q4:(k:Int)+16<32:=by omega
              have q5:(k:Int)<32:=by omega
              have w1:IntKind.i64.wrap (38*ly)=38*ly:=IntWalk.i64_in _ (by omega)
              have w2:IntKind.i64.wrap (lx+38*ly)=lx+38*ly:=IntWalk.i64_in _ (by omega)
              have HX:Hid (∀ W,Ext wr.drew W→W.cell? ⟨w.heap.size,k,none⟩=some (.int .i64 lx)):=Lib.hid fun W hR=>QaE (Qaa (Qaa hA (Qah _)) hR) hX
              have HY:Hid (∀ W,Ext wr.drew W→W.cell? ⟨w.heap.size,k+16,none⟩=some (.int .i64 ly)):=Lib.hid fun W hR=>QaE (Qaa (Qaa hA (Qah _)) hR) hY
              go_wp2
              refine Qa4 Ext 11 103 [⟨none,[(8,none)]⟩,⟨none,[(8,none)]⟩,⟨none,[(1,none),(39,some 1)]⟩,⟨none,[(40,some 2)]⟩,⟨none,[(8,none)]⟩,⟨none,[(42,some 4)]⟩,⟨none,[(1,none),(43,some 5)]⟩,⟨none,[(44,some 6)]⟩,⟨none,[(45,some 7)]⟩,⟨none,[(41,some 3),(46,some 8)]⟩,⟨none,[(1,none),(38,some 0)]⟩] kj kj rfl Ext.refl Ext.trans (fun F r0 hr hF=>?_)
              have f1:r0 1=.pointer (some ⟨w.heap.size,0,none⟩):=by rw [hr]; rfl
              have f8:r0 8=.int .i64 k:=by rw [hr]; rfl
              clear hr
              simp only [List.take_succ_cons,List.take_zero]
              repeat
                (try simp only [List.cons_append,List.nil_append]
                 apply Qas
                 (intro ρ W hR hh
                  have hcx:=HX.out W hR
                  have hcy:=HY.out W hR
                  simp only [QbJ,List.getD_cons_zero,List.getD_cons_succ,f1,f8] at hh
                  simp only [guarded,QaN]
                  go_simp
                  first
                    | exact ⟨Ext.refl _,rfl⟩
                    | exact Ext.refl _))
              simp only [List.cons_append,List.nil_append]
              refine hF.out fun W hRW=>?_
              simp only [List.take_succ_cons,List.take_zero,List.drop_succ_cons,List.drop_zero,fin,forall_eq,Act.put,List.setIfInBounds_toArray,List.set_cons_zero,List.set_cons_succ]
              clear HX HY hF f1 f8
              have hE:=Ext.trans (Qah wr) hRW
              have hA':=Qaa hA hE
              have hB':=Qaa hB hE
              have hC':=Qaa hC hE
              have hcx:=QaE hA' hX
              have hfx:=Qb4 hA' k
              have hA2:=QcF k (.int .i64 (lx+38*ly)) hA'
              have hcy:(W.setCell ⟨w.heap.size,k,none⟩ (.int .i64 (lx+38*ly))).cell? ⟨w.heap.size,k+16,none⟩=some (.int .i64 ly):=QaE hA2 (by rw [Array.getElem?_setIfInBounds_ne (by omega)]; exact hY)
              have hfy:=Qb4 hA2 (k+16)
              go_wp2
              exact ⟨⟨k+1,by omega,by go_num,QcI (QcI (Ext.trans he hE) (qR _) _ _) (qR _) _ _,(QcF _ _ hA2).trans (by rw [hS1]),(QaI _ _ (by omega)).trans ((QaI _ _ (by omega)).trans hB'),(QaI _ _ (by omega)).trans ((QaI _ _ (by omega)).trans hC')⟩,by simp [intOf]; omega⟩
            · obtain rfl:k=16:=by omega
              rw [QjB] at hA
              have hS:=HS.out
              have hgv:=HG.out
              clear HS HG
              go_wp2
              refine ⟨⟨r+1,by omega,by go_num,he,Qck (it r n),fun i _=>?_,QkW _ hS,fun _ i hi=>?_,hA,⟨b,hbs,hB⟩,hC⟩,by simp [intOf]; omega⟩
              · have:=QgD (it r n) i
                unfold M
                omega
              · unfold Qck
                rw [if_neg (by omega)]
    · obtain rfl:r=4:=by omega
      have hz:=hgz (by decide)
      have hgv:pvf g 16=it 4 n:=by rw [←hgv,QeD g 16 32 (by decide) fun j a _=>hz j a]
      clear hgz hr hn hl h0 hit
      obtain ⟨hN0,hN1,hN2⟩:=hfour
      generalize hN:it 4 n=N at *
      have HN:=Lib.hid (And.intro hN0 (And.intro hN1 hN2))
      clear hN0 hN1 hN2 hN
      rw [show List.replicate 16 (0:Int)=mix 16 (limb N) (fun _=>0) 0 by rw [QfM]; rfl] at hC
      go_wp2
      go_loopw [9,10] (fun c i wq=>∃ k:Nat,k≤16∧i=.int .i64 k∧c=.int .i64 (cr g k)∧Ext w wq∧wq.heap[w.heap.size]? = some (.cells (ints .i64 ((List.range 32).map g)) 116)∧wq.heap[w.heap.size+1]? = some (.cells b 58) ∧
        wq.heap[w.heap.size+1+1]? = some (.cells (ints .i64 (mix 16 (limb N) (fun _=>0) k)) 58)) (fun _ i _=>16-(intOf i).toNat)
      case atStart=>exact ⟨0,by omega,rfl,by rw [Qew],he,hA,hB,hC⟩
      case round =>
        clear hA hB hC he
        obtain ⟨k,hk,rfl,rfl,he,hA,hB,hC⟩:=hrel
        by_cases hk16:k<16
        · have hX:(ints .i64 ((List.range 32).map g))[k]? = some (.int .i64 (g k)):=by rw [Qaw _ _ _ (by simp; omega)]; simp [nth,show k<32 by omega]
          have hY:(ints .i64 (mix 16 (limb N) (fun _=>0) k))[k]? = some (.int .i64 0):=by rw [Qaw _ _ _ (by rw [mix_len]; exact hk16),QcH _ _ _ _ _ hk16,if_neg (by omega)]
          have hS1:(ints .i64 (mix 16 (limb N) (fun _=>0) k)).setIfInBounds k (.int .i64 (limb N k))=ints .i64 (mix 16 (limb N) (fun _=>0) (k+1)):=by rw [QbA,mix_set _ _ _ _ hk16]
          have e1:=QcO g k 16 hk16
          have e2:=Qex g k
          have b1:=hg k (by omega)
          have b2:=QfZ g M 32 (by decide) hg k (by omega)
          rw [hgv] at e1
          unfold M at b1 b2
          generalize hcn:cr g (k+1)=cn at *
          generalize hcc:cr g k=cc at *
          generalize hgg:g k=gk at *
          have q5:(k:Int)<32:=by omega
          have hcx:=QaE hA hX
          have hcy:=QaE hC hY
          have hfx:=Qb4 hC k
          have w1:IntKind.i64.wrap (gk+cc)=gk+cc:=IntWalk.i64_in _ (by omega)
          have w2:(gk+cc).tmod 65536=(gk+cc)%65536:=Int.tmod_eq_emod_of_nonneg (by omega)
          have w3:IntKind.i64.wrap ((gk+cc)%65536)=(gk+cc)%65536:=IntWalk.i64_in _ (by omega)
          have w4:(gk+cc).tdiv 65536=(gk+cc)/65536:=Int.tdiv_eq_ediv_of_nonneg (by omega)
          have w5:IntKind.i64.wrap ((gk+cc)/65536)=(gk+cc)/65536:=IntWalk.i64_in _ (by omega)
          have HG:=Lib.hid hg
          clear hg hz
          go_wp2
          exact ⟨⟨k+1,by omega,by go_num,by rw [hcn],QcI he (by omega) _ _,(QaI _ _ (by omega)).trans hA,(QaI _ _ (by omega)).trans hB,(QcF _ _ hC).trans (by rw [hS1])⟩,by simp [intOf]; omega⟩
        · obtain rfl:k=16:=by omega
          clear hg hz hgv hA
          have hX:(ints .i64 (mix 16 (limb N) (fun _=>0) 16))[15]? = some (.int .i64 (limb N 15)):=by rw [Qaw _ _ _ (by rw [mix_len]; decide),QcH _ _ _ _ _ (by decide),if_pos (by decide)]
          have hY:(ints .i64 (mix 16 (limb N) (fun _=>0) 16))[0]? = some (.int .i64 (limb N 0)):=by rw [Qaw _ _ _ (by rw [mix_len]; decide),QcH _ _ _ _ _ (by decide),if_pos (by decide)]
          have hS1:(ints .i64 (mix 16 (limb N) (fun _=>0) 16)).setIfInBounds 15 (.int .i64 (limb N 15%32768))=ints .i64 (mix 16 (limb (S5 N)) (out5 N) 0):=by
            rw [QbA]
            refine congrArg (ints .i64) (List.ext_getElem (by simp [mix]) fun i h1 h2=>?_)
            have h3:i<16:=by simpa [mix] using h2
            simp only [mix,List.getElem_set,List.getElem_map,List.getElem_range]
            unfold out5
            by_cases h:i=15
            · subst h; simp
            · rw [if_neg (show ¬ 15=i by omega),if_pos h3,if_neg (show ¬ i<0 by omega),if_neg h]
          have b1:=Qba N 15
          have b2:=Qba N 0
          have eg0:limb N 0+19*(limb N 15/32768)=g5 N 0+cr (g5 N) 0:=by
            rw [Qew]
            unfold g5 out5
            simp
          generalize hm0:g5 N 0+cr (g5 N) 0=m0 at *
          generalize hlx:limb N 15=lx at *
          generalize hly:limb N 0=ly at *
          have w1:lx.tdiv 32768=lx/32768:=Int.tdiv_eq_ediv_of_nonneg (by omega)
          have w2:IntKind.i64.wrap (lx/32768)=lx/32768:=IntWalk.i64_in _ (by omega)
          have w3:lx.tmod 32768=lx%32768:=Int.tmod_eq_emod_of_nonneg (by omega)
          have w4:IntKind.i64.wrap (lx%32768)=lx%32768:=IntWalk.i64_in _ (by omega)
          have w5:IntKind.i64.wrap (19*(lx/32768))=19*(lx/32768):=IntWalk.i64_in _ (by omega)
          have w6:IntKind.i64.wrap (ly+19*(lx/32768))=ly+19*(lx/32768):=IntWalk.i64_in _ (by omega)
          have hcx:=QaE hC hX
          have hfx:=Qb4 hC 15
          have hC2:=QcF 15 (.int .i64 (lx%32768)) hC
          have hcy:(wr.setCell ⟨w.heap.size+1+1,15,none⟩ (.int .i64 (lx%32768))).cell? ⟨w.heap.size+1+1,0,none⟩=some (.int .i64 ly):=QaE hC2 (by rw [Array.getElem?_setIfInBounds_ne (by decide)]; exact hY)
          rw [hS1] at hC2
          have hB2:=(QaI (W:=wr) 15 (.int .i64 (lx%32768)) (show w.heap.size+1≠w.heap.size+1+1 by omega)).trans hB
          have he2:=QcI he (show w.heap.size≤w.heap.size+1+1 by omega) 15 (.int .i64 (lx%32768))
          generalize hwz:wr.setCell ⟨w.heap.size+1+1,15,none⟩ (.int .i64 (lx%32768))=wz at *
          go_wp2
          clear hcx hfx hcy hX hY hS1 hC hB he hwz w1 w2 w3 w4 w5 w6
          go_loopw [13,14] (fun c i wq=>∃ k:Nat,k≤16∧i=.int .i64 k∧(∃ m:Int,c=.int .i64 m∧0≤m∧m≤4611686018427387904∧(k<16→m=g5 N k+cr (g5 N) k))∧Ext w wq∧wq.heap[w.heap.size+1]? = some (.cells b 58) ∧
            wq.heap[w.heap.size+1+1]? = some (.cells (ints .i64 (mix 16 (limb (S5 N)) (out5 N) k)) 58)) (fun _ i _=>16-(intOf i).toNat)
          case atStart=>exact ⟨0,by omega,rfl,⟨_,rfl,by omega,by omega,fun _=>by rw [hm0]⟩,he2,hB2,hC2⟩
          case round =>
            clear he2 hB2 hC2 eg0 hm0 b1 b2
            obtain ⟨k,hk,rfl,⟨m,rfl,hm0,hm1,hme⟩,he,hB,hC⟩:=hrel
            by_cases hk16:k<16
            · have hme':=hme hk16
              have hX:(ints .i64 (mix 16 (limb (S5 N)) (out5 N) k))[k]? = some (.int .i64 (out5 N k)):=by rw [Qaw _ _ _ (by rw [mix_len]; exact hk16),QcH _ _ _ _ _ hk16,if_neg (by omega)]
              have hS1:(ints .i64 (mix 16 (limb (S5 N)) (out5 N) k)).setIfInBounds k (.int .i64 (limb (S5 N) k))=ints .i64 (mix 16 (limb (S5 N)) (out5 N) (k+1)):=by rw [QbA,mix_set _ _ _ _ hk16]
              have e1:=QcO (g5 N) k 16 hk16
              have e2:=Qex (g5 N) k
              rw [QnB N ⟨HN.out.1,HN.out.2.1⟩,←hme'] at e1
              rw [←hme'] at e2
              have hcx:=QaE hC hX
              have hfx:=Qb4 hC k
              have hC2:=QcF k (.int .i64 (limb (S5 N) k)) hC
              have hB2:=(QaI (W:=wr) k (.int .i64 (limb (S5 N) k)) (show w.heap.size+1≠w.heap.size+1+1 by omega)).trans hB
              have he2:=QcI he (show w.heap.size≤w.heap.size+1+1 by omega) k (.int .i64 (limb (S5 N) k))
              rw [hS1] at hC2
              have w2:m.tmod 65536=m%65536:=Int.tmod_eq_emod_of_nonneg hm0
              have w3:IntKind.i64.wrap (m%65536)=m%65536:=IntWalk.i64_in _ (by omega)
              have w4:m.tdiv 65536=m/65536:=Int.tdiv_eq_ediv_of_nonneg hm0
              have w5:IntKind.i64.wrap (m/65536)=m/65536:=IntWalk.i64_in _ (by omega)
              by_cases hk15:k<15
              · have hZ:(ints .i64 (mix 16 (limb (S5 N)) (out5 N) (k+1)))[k+1]? = some (.int .i64 (out5 N (k+1))):=by rw [Qaw _ _ _ (by rw [mix_len]; omega),QcH _ _ _ _ _ (by omega),if_neg (by omega)]
                have hcz:=QaE hC2 hZ
                have hor:=Qi0 N (k+1)
                have hgn:out5 N (k+1)+cr (g5 N) (k+1)=g5 N (k+1)+cr (g5 N) (k+1):=by
                  unfold g5
                  rw [if_neg (show ¬ k+1=0 by omega)]
                  omega
                have q1:IntKind.i64.wrap ((k:Int)+1)=(k:Int)+1:=IntWalk.i64_in _ (by omega)
                have q2:((k:Int)+1).toNat=k+1:=by omega
                have q3:(0:Int)≤(k:Int)+1:=by omega
                have q4:(k:Int)+1<16:=by omega
                have q5:(k:Int)<15:=by omega
                rw [←e2] at hgn
                have Hgn:=Lib.hid hgn
                clear hgn hme hme'
                generalize hoz:out5 N (k+1)=oz at *
                generalize hwz:wr.setCell ⟨w.heap.size+1+1,k,none⟩ (.int .i64 (limb (S5 N) k))=wz at *
                have w6:IntKind.i64.wrap (oz+m/65536)=oz+m/65536:=IntWalk.i64_in _ (by omega)
                go_wp2
                exact ⟨⟨k+1,by omega,by go_num,⟨_,rfl,by omega,by omega,fun _=>by have:=Hgn.out; omega⟩,he2,hB2,hC2⟩,by simp [intOf]; omega⟩
              · obtain rfl:k=15:=by omega
                clear hme hme'
                generalize hwz:wr.setCell ⟨w.heap.size+1+1,15,none⟩ (.int .i64 (limb (S5 N) 15))=wz at *
                go_wp2
                exact ⟨⟨16,by omega,rfl,⟨m,rfl,hm0,hm1,fun h=>by omega⟩,he2,hB2,hC2⟩,by simp [intOf]⟩
            · obtain rfl:k=16:=by omega
              clear hme
              have hV:=QnL N ⟨HN.out.1,HN.out.2.1⟩
              have hL:=QkM (S5 N) hV.1 hV.2.1
              have hres:lnum (S5 N%p)=lnum (n%p):=by
                have:=HN.out.2.2
                unfold p
                rw [hV.2.2,this]
              rw [QfN _ _ _ _ (qR _)] at hC
              have hC:wr.heap[w.heap.size+1+1]? = some (.cells (ints .i64 (lims (S5 N))) 58):=hC
              clear HN
              generalize hVV:S5 N=V at *
              have hp0:(0:Int)≤p∧p<big:=by decide
              have hVb:0≤V∧V<big:=by unfold big; omega
              by_cases hge:p≤V
              · have hv:V-p=V%p:=hL.1 hge
                have hvb:0≤V%p∧V%p<p:=⟨Int.emod_nonneg _ (by decide),Int.emod_lt_of_pos _ (by decide)⟩
                have HA:Hid (∀ w,Calls Tryd.prog 98 #[.agg (ints .i64 (lims V)),.agg (ints .i64 (lims p))] w (Ret w (.bool true))):=Lib.hid fun w=>by
                  have:=Qh2 V p hVb hp0 w
                  rw [decide_eq_true hge] at this
                  exact this
                have HA2:Hid (∀ w,Calls Tryd.prog 98 #[.agg (ints .i64 (lims (V%p))),.agg (ints .i64 (lims p))] w (Ret w (.bool false))):=Lib.hid fun w=>by
                  have:=Qh2 (V%p) p ⟨hvb.1,by omega⟩ hp0 w
                  rw [decide_eq_false (by omega)] at this
                  exact this
                have HM:Hid (∀ w,Calls Tryd.prog 84 #[.agg (ints .i64 (lims V)),.agg (ints .i64 (lims p))] w (Ret w (.agg (ints .i64 (lims (V%p)))))):=Lib.hid fun w=>by
                  have:=minus V p hp0.1 hge hVb.2 w
                  rw [hv] at this
                  exact this
                generalize hR:V%p=R at *
                have HRES:=Lib.hid hres
                clear hres
                clear hv hvb hge hVb hL hV hVV hR
                go_wp2
                refine wp_loop_rounds 3 ?_
                rw [rounds_succ]
                go_wp2
                refine Qa4 Ext 2 103 [⟨none,[(3,none)]⟩,⟨none,[]⟩] kj kj rfl Ext.refl Ext.trans (fun F r0 hr hF=>?_)
                have f3:r0 3=.pointer (some ⟨w.heap.size+1+1,0,none⟩):=by rw [hr]; rfl
                clear hr
                simp only [List.take_succ_cons,List.take_zero]
                refine Qas (.agg (ints .i64 (lims V))) (fun ρ W hR hh=>?_) ?_
                · exact Qbw 58 (.tmp _) rfl _ (Eq.trans hh.1 f3) 58 _ (0,0) _ (Qaa (Qaa hC (Qah _)) hR) Tryd.underlying58 rfl (QdH _ (Qbf _))
                refine Qas (.agg (ints .i64 (lims p))) (fun ρ W hR hh=>?_) ?_
                · simp only [guarded,QaN]
                  go_simp
                  exact ⟨Ext.refl _,(prime _).mono fun _ _ h=>h.const⟩
                simp only [List.cons_append,List.nil_append]
                refine hF.out fun W1 hR1=>?_
                simp only [List.take_succ_cons,List.take_zero,List.drop_succ_cons,List.drop_zero,fin,forall_eq,Act.put,List.setIfInBounds_toArray,List.set_cons_zero,List.set_cons_succ]
                clear hF f3
                go_wp2_with first
                  | (go_at_call 98
                     (with_reducible refine (HA.out _).mono ?_)
                     clear HA
                     rintro e w' ⟨rfl,hw⟩)
                have hBy:=Qaa (Qaa (Qaa hB (Qah _)) hR1) hw
                have hCy:=Qaa (Qaa (Qaa hC (Qah _)) hR1) hw
                have hey:=Ext.trans (Ext.trans (Ext.trans he (Qah _)) hR1) hw
                clear hB hC he hw hR1
                refine Qa4 Ext 2 103 [⟨none,[(3,none)]⟩,⟨none,[]⟩] kj kj rfl Ext.refl Ext.trans (fun F r0 hr hF=>?_)
                have f3:r0 3=.pointer (some ⟨w.heap.size+1+1,0,none⟩):=by rw [hr]; rfl
                clear hr
                simp only [List.take_succ_cons,List.take_zero]
                refine Qas (.agg (ints .i64 (lims V))) (fun ρ W hR hh=>?_) ?_
                · exact Qbw 58 (.tmp _) rfl _ (Eq.trans hh.1 f3) 58 _ (0,0) _ (Qaa (Qaa hCy (Qah _)) hR) Tryd.underlying58 rfl (QdH _ (Qbf _))
                refine Qas (.agg (ints .i64 (lims p))) (fun ρ W hR hh=>?_) ?_
                · simp only [guarded,QaN]
                  go_simp
                  exact ⟨Ext.refl _,(prime _).mono fun _ _ h=>h.const⟩
                simp only [List.cons_append,List.nil_append]
                refine hF.out fun W2 hR2=>?_
                simp only [List.take_succ_cons,List.take_zero,List.drop_succ_cons,List.drop_zero,fin,forall_eq,Act.put,List.setIfInBounds_toArray,List.set_cons_zero,List.set_cons_succ]
                clear hF f3
                go_wp2_with first
                  | (go_at_call 84
                     (with_reducible refine (HM.out _).mono ?_)
                     clear HM
                     rintro e w'' ⟨rfl,hw⟩
                     have hBx:=Qaa (Qaa (Qaa hBy (Qah _)) hR2) hw
                     have hCx:=Qaa (Qaa (Qaa hCy (Qah _)) hR2) hw
                     have hex:=Ext.trans (Ext.trans (Ext.trans hey (Qah _)) hR2) hw)
                  | (with_reducible show wpList _ _ _ ((⟨_,.store 58 _ _,_,_,_,_⟩:Oper)::_) _ _
                     refine wpList_store_row rfl 58 _ _ rfl (w.heap.size+1+1) _ rfl rfl 58 _ hCx (QdH _ (Qbf _)) (by rw [Qaf,Qaf,Qbf,Qbf]) (ints_one _ _) ?_)
                have hCv:(w''.setRow (w.heap.size+1+1) (ints .i64 (lims R))).heap[w.heap.size+1+1]? = some (.cells (ints .i64 (lims R)) 58):=setRow_heap _ _ _ _ _ _ hCx
                have hBv:=(setRow_other w'' (w.heap.size+1+1) (w.heap.size+1) (ints .i64 (lims R)) (by omega)).trans hBx
                have hev:=QaU hex (show w.heap.size≤w.heap.size+1+1 by omega) (ints .i64 (lims R))
                generalize w''.setRow (w.heap.size+1+1) (ints .i64 (lims R))=wv at *
                clear hCx hBx hex hw hCy hBy hey hR2
                rw [rounds_succ]
                go_wp2
                refine Qa4 Ext 2 103 [⟨none,[(3,none)]⟩,⟨none,[]⟩] kj kj rfl Ext.refl Ext.trans (fun F r0 hr hF=>?_)
                have f3:r0 3=.pointer (some ⟨w.heap.size+1+1,0,none⟩):=by rw [hr]; rfl
                clear hr
                simp only [List.take_succ_cons,List.take_zero]
                refine Qas (.agg (ints .i64 (lims R))) (fun ρ W hR hh=>?_) ?_
                · exact Qbw 58 (.tmp _) rfl _ (Eq.trans hh.1 f3) 58 _ (0,0) _ (Qaa (Qaa hCv (Qah _)) hR) Tryd.underlying58 rfl (QdH _ (Qbf _))
                refine Qas (.agg (ints .i64 (lims p))) (fun ρ W hR hh=>?_) ?_
                · simp only [guarded,QaN]
                  go_simp
                  exact ⟨Ext.refl _,(prime _).mono fun _ _ h=>h.const⟩
                simp only [List.cons_append,List.nil_append]
                refine hF.out fun W3 hR3=>?_
                simp only [List.take_succ_cons,List.take_zero,List.drop_succ_cons,List.drop_zero,fin,forall_eq,Act.put,List.setIfInBounds_toArray,List.set_cons_zero,List.set_cons_succ]
                clear hF f3
                go_wp2_with first
                  | (go_at_call 98
                     (with_reducible refine (HA2.out _).mono ?_)
                     clear HA2
                     rintro e w4 ⟨rfl,hw4⟩
                     have hBz:=Qaa (Qaa (Qaa hBv (Qah _)) hR3) hw4
                     have hCz:=Qaa (Qaa (Qaa hCv (Qah _)) hR3) hw4
                     have hez:=Ext.trans (Ext.trans (Ext.trans hev (Qah _)) hR3) hw4
                     clear hw4)
                  | (with_reducible show wpList _ _ _ ((⟨_,.load 58 _,_,_,_,_⟩:Oper)::_) _ _
                     refine wpList_load_row rfl 58 _ rfl (w.heap.size+1+1) rfl 58 _ (0,0) _ hCz Tryd.underlying58 rfl (QdH _ (Qbf _)) ?_)
                  | (with_reducible show wpList _ _ _ ((⟨_,.store 58 _ _,_,_,_,_⟩:Oper)::_) _ _
                     refine wpList_store_row rfl 58 _ _ rfl (w.heap.size+1) _ rfl rfl 58 _ hBz (QdH _ (Qbf _)) (by rw [hbs,Qaf,Qbf]) (ints_one _ _) ?_)
                exact bodyPost_ret (results_cell_row (p:=2) rfl _ _ (w.heap.size+1) 58 _ (0,0) _ rfl (setRow_heap _ _ _ _ _ _ hBz) Tryd.underlying58 rfl (QdH _ (Qbf _))) rfl ⟨by rw [←HRES.out]; rfl,QaU hez (by omega) _⟩
              · have hv:V=V%p:=hL.2 hge
                have HA:Hid (∀ w,Calls Tryd.prog 98 #[.agg (ints .i64 (lims V)),.agg (ints .i64 (lims p))] w (Ret w (.bool false))):=Lib.hid fun w=>by
                  have:=Qh2 V p hVb hp0 w
                  rw [decide_eq_false hge] at this
                  exact this
                rw [←hv] at hres
                have HRES:=Lib.hid hres
                clear hres
                clear hv hge hVb hL hV hVV
                go_wp2
                refine wp_loop_rounds 2 ?_
                rw [rounds_succ]
                go_wp2
                refine Qa4 Ext 2 103 [⟨none,[(3,none)]⟩,⟨none,[]⟩] kj kj rfl Ext.refl Ext.trans (fun F r0 hr hF=>?_)
                have f3:r0 3=.pointer (some ⟨w.heap.size+1+1,0,none⟩):=by rw [hr]; rfl
                clear hr
                simp only [List.take_succ_cons,List.take_zero]
                refine Qas (.agg (ints .i64 (lims V))) (fun ρ W hR hh=>?_) ?_
                · exact Qbw 58 (.tmp _) rfl _ (Eq.trans hh.1 f3) 58 _ (0,0) _ (Qaa (Qaa hC (Qah _)) hR) Tryd.underlying58 rfl (QdH _ (Qbf _))
                refine Qas (.agg (ints .i64 (lims p))) (fun ρ W hR hh=>?_) ?_
                · simp only [guarded,QaN]
                  go_simp
                  exact ⟨Ext.refl _,(prime _).mono fun _ _ h=>h.const⟩
                simp only [List.cons_append,List.nil_append]
                refine hF.out fun W1 hR1=>?_
                simp only [List.take_succ_cons,List.take_zero,List.drop_succ_cons,List.drop_zero,fin,forall_eq,Act.put,List.setIfInBounds_toArray,List.set_cons_zero,List.set_cons_succ]
                clear hF f3
                go_wp2_with first
                  | (go_at_call 98
                     (with_reducible refine (HA.out _).mono ?_)
                     clear HA
                     rintro e w4 ⟨rfl,hw4⟩
                     have hBz:=Qaa (Qaa (Qaa hB (Qah _)) hR1) hw4
                     have hCz:=Qaa (Qaa (Qaa hC (Qah _)) hR1) hw4
                     have hez:=Ext.trans (Ext.trans (Ext.trans he (Qah _)) hR1) hw4
                     clear hw4)
                  | (with_reducible show wpList _ _ _ ((⟨_,.load 58 _,_,_,_,_⟩:Oper)::_) _ _
                     refine wpList_load_row rfl 58 _ rfl (w.heap.size+1+1) rfl 58 _ (0,0) _ hCz Tryd.underlying58 rfl (QdH _ (Qbf _)) ?_)
                  | (with_reducible show wpList _ _ _ ((⟨_,.store 58 _ _,_,_,_,_⟩:Oper)::_) _ _
                     refine wpList_store_row rfl 58 _ _ rfl (w.heap.size+1) _ rfl rfl 58 _ hBz (QdH _ (Qbf _)) (by rw [hbs,Qaf,Qbf]) (ints_one _ _) ?_)
                exact bodyPost_ret (results_cell_row (p:=2) rfl _ _ (w.heap.size+1) 58 _ (0,0) _ rfl (setRow_heap _ _ _ _ _ _ hBz) Tryd.underlying58 rfl (QdH _ (Qbf _))) rfl ⟨by rw [←HRES.out]; rfl,QaU hez (by omega) _⟩
end Go.Proofs.YtdoadngmgmdlbaaDoor.Field
end
section
namespace Go.Proofs.YtdoadngmgmdlbaaDoor.Field
open Go Go.RowKit
open Rely
end Go.Proofs.YtdoadngmgmdlbaaDoor.Field
end
section
namespace Go.Proofs.YtdoadngmgmdlbaaDoor.Field
open Go Go.RowKit
open Rely
end Go.Proofs.YtdoadngmgmdlbaaDoor.Field
end
section
namespace Go.Proofs.YtdoadngmgmdlbaaDoor.Field
open Go Go.RowKit
open Rely
def Qe1 (xs : List Int) (i:Nat):Int:=nth xs (2*i)+256*nth xs (2*i+1)
theorem Qiz (xs : List Int) (hb:Qak xs) (i:Nat):0≤Qe1 xs i∧Qe1 xs i<65536:=by
  have h1:=hb.nth (2*i)
  have h2:=hb.nth (2*i+1)
  unfold Qe1
  omega
theorem QhI (xs : List Int):∀ k,pvf (Qe1 xs) k=leAt xs 0 (2*k)
  | 0=>rfl
  | k+1=>by
    have e:2*(k+1)=2*k+1+1:=by omega
    have f:(256:Int)^(2*k)=65536^k:=by rw [Int.pow_mul]; rfl
    have f':(256:Int)^(2*k+1)=256*65536^k:=by rw [Int.pow_succ,f,Int.mul_comm]
    rw [pvf,QhI xs k,e,leAt,leAt,Nat.zero_add,Nat.zero_add,f,f',Qe1]
    generalize (65536:Int)^k=b
    generalize nth xs (2*k)=u
    generalize nth xs (2*k+1)=v
    generalize leAt xs 0 (2*k)=z
    grind
end Go.Proofs.YtdoadngmgmdlbaaDoor.Field
end
section
namespace Go.Proofs.YtdoadngmgmdlbaaDoor.Field
open Go Go.RowKit
open Rely
end Go.Proofs.YtdoadngmgmdlbaaDoor.Field
end
section
namespace Go.Proofs.YtdoadngmgmdlbaaDoor.Field
open Go Go.RowKit
open Rely
theorem Qgc (w : World) (a b:Obj):((w.alloc a).alloc b).heap[w.heap.size]? = some a:=by
  rw [Below.heap_alloc _ _ _ (by simp)]; exact heap_alloc_new _ _
theorem Qgb (w : World) (a b:Obj):((w.alloc a).alloc b).heap[w.heap.size+1]? = some b:=by
  have:=heap_alloc_new (w.alloc a) b
  simpa using this
end Go.Proofs.YtdoadngmgmdlbaaDoor.Field
end
section
namespace Go.Proofs.YtdoadngmgmdlbaaDoor.Field
open Go Go.RowKit
open Rely
def QeX (xs : List Int):Int:=leAt xs 0 32%57896044618658097711785492504343953926634992332820282019728792003956564819968%p
theorem Qi7 (xs : List Int):isN (QeX xs):=Qa0 _
theorem Qbn {o : Oper} {ρ:Tmp→Value} {W:World} (x:Operand) (ho:o.op=.load 49 x) (g:Nat) (n:Int) (hx:Rely.look ρ x=Value.pointer (some ⟨g,0,none⟩)) (hg:W.heap[g]? = some (.cells (numA n) 49)) :
    QaN Tryd.prog Ext o ρ W (fun v _=>v=num n) :=
  Qbw 49 x ho g hx 49 (numA n) (0,0) _ hg Tryd.underlying49 rfl QaC
theorem Ql0 (a b:Int) (h:a=b) (ha:isN a) (w:World):Calls Tryd.prog 94 #[num a,num b] w (Ret w (.bool true)):=by
  subst h
  have:=equal a a ha ha w
  simpa using this
theorem QhM (a b:Int) (h:a≠b) (ha:isN a) (hb:isN b) (w:World):Calls Tryd.prog 94 #[num a,num b] w (Ret w (.bool false)):=by
  have:=equal a b ha hb w
  rw [show (a==b)=false by simpa using h] at this
  exact this
def Ql8 (t : TypeId) (m:Nat) (b:Nat) (v:Value) (W:World):Prop:=∃ g,v=.pointer (some ⟨g,0,none⟩)∧b≤g∧g<W.heap.size∧∃ cs:Array Value,cs.size=m∧W.heap[g]? = some (.cells cs t)
theorem QfW (t : TypeId) (m:Nat) (b:Nat):QbT Ext (Ql8 t m b):=fun v W W' hR ⟨g,h1,h2,h3,cs,h4,h5⟩=>⟨g,h1,h2,qL h3 hR.size,cs,h4,(hR.block g h3).trans h5⟩
theorem bytesOf_len (n : Int):(Qao n).length=32:=by simp [Qao,part]
end Go.Proofs.YtdoadngmgmdlbaaDoor.Field
end
section
namespace Go.Proofs.YtdoadngmgmdlbaaDoor.Field
open Go Go.RowKit Go.Shelf
open Rely
attribute [local go_sem] Oper.semAt_some
def Qdb (es : List Int) (i:Nat):Int:=nth es (i/8)/2^(i%8)%2
def QbC (es : List Int):List Int:=(List.range 256).map fun j=>Qdb es (255-j)
theorem Qf0 (es : List Int):(QbC es).length=256:=by simp [QbC]
theorem Qhx (es : List Int) (j:Nat) (hj:j<256):(QbC es).take (256-j)=(QbC es).take (256-(j+1))++[Qdb es j]:=by
  have e:256-j=(256-(j+1))+1:=by omega
  rw [e,List.take_add_one]
  congr 1
  have h:256-(j+1)<256:=by omega
  simp only [QbC,List.getElem?_map,List.getElem?_range h,Option.map_some,Option.toList_some]
  rw [show 255-(256-(j+1))=j by omega]
theorem Qhz (es : List Int) (i:Nat):0≤Qdb es i∧Qdb es i<2:=by unfold Qdb; omega
def QeR (a o b:Int):Int:=if b=0 then o*o%p else o*o%p*a%p
def Qbi (a : Int) (bs:List Int):Int:=bs.foldl (QeR a) 1
theorem QdB (a : Int) (bs:List Int) (b:Int):Qbi a (bs++[b])=QeR a (Qbi a bs) b:=by simp [Qbi]
theorem Qiw (a o b:Int):isN (QeR a o b):=by
  unfold QeR
  split <;> exact Qa0 _
theorem Qjy : isN 1:=by unfold isN p; decide
theorem Qdt (a : Int):∀ bs:List Int,isN (Qbi a bs):=fun bs=>by
  rcases List.eq_nil_or_concat bs with h | ⟨l,b,h⟩
  · subst h; exact Qjy
  · subst h; rw [List.concat_eq_append,QdB]; exact Qiw _ _ _
def cnt (bs : List Int):Nat:=bs.foldl (fun n b=>2*n+(if b=0 then 0 else 1)) 0
theorem Qlg (bs : List Int) (b:Int):cnt (bs++[b])=2*cnt bs+(if b=0 then 0 else 1):=by simp [cnt]
theorem QhD (a : Int):∀ bs:List Int,Qbi a bs=a^cnt bs%p:=fun bs=>by
  have key:∀ r:List Int,Qbi a r.reverse=a^cnt r.reverse%p:=by
    intro r
    induction r with
    | nil =>
      show (1:Int)=a^0%p
      rw [Int.pow_zero]
      decide
    | cons b r ih =>
      rw [List.reverse_cons,QdB,Qlg,ih]
      unfold QeR
      have sq:a^cnt r.reverse%p*(a^cnt r.reverse%p)%p=a^(2*cnt r.reverse)%p:=by
        rw [←Int.mul_emod,←Int.pow_add,Nat.two_mul]
      by_cases hb:b=0
      · rw [if_pos hb,if_pos hb,sq,Nat.add_zero]
      · rw [if_neg hb,if_neg hb,sq,Int.pow_succ]
        generalize a^(2*cnt r.reverse)=c
        rw [Int.mul_emod (c%p),Int.emod_emod,←Int.mul_emod]
  have:=key bs.reverse
  rwa [List.reverse_reverse] at this
theorem Qh4 (v : Int) (h:0≤v∧v≤255):bits .and .i64 v 1=v%2:=by
  obtain ⟨n,rfl⟩:=Int.eq_ofNat_of_zero_le h.1
  have key:∀ n:Nat,n<256→bits .and .i64 (n:Int) 1=(n:Int)%2:=by decide +kernel
  exact key n (by omega)
set_option maxHeartbeats 2000000 in
theorem QiD (m : Nat) (hm:1≤m) (kb n₀:Nat) (es:List Int) (hel:es.length=32) (hb:Qak es) (w:World) (hkb:w.heap[kb]? = some (.cells (ints .u8 es) 23)) (hk:kb<n₀) (hn₀:n₀≤w.heap.size) :
    SeqStopsK Fence.wide m Tryd.prog 82 #[.pointer (some ⟨kb,0,none⟩)] (fun x:Int=>#[Value.int .i64 x]) (Below n₀) (fun ys=>ys=QbC es) (fun pre=>pre <+: QbC es) 256 w:=fun l J Jx W hW hJ hJx hY h0=>by
  refine callsIn_of_wp Tryd.func82 rfl trivial ?_ rfl
  simp only [Tryd.ntmps82,List.size_toArray,List.length_cons,List.length_nil,Nat.reduceAdd,Nat.reduceSub,Array.replicate_succ,Array.replicate_zero,List.push_toArray,List.append_toArray,List.nil_append,List.cons_append]
  have hkW:W.heap[kb]? = some (.cells (ints .u8 es) 23):=(hW.block kb (Qa6 hkb)).trans hkb
  gi_wp2
  gi_loopw [3] (fun i wr=>∃ k:Nat,k≤256∧i=.int .i64 ((k:Int)-1)∧J ((QbC es).take (256-k)) wr∧Below n₀ W wr) (fun i _=>(intOf i+1).toNat)
  case atStart=>exact ⟨256,by omega,rfl,by simpa using h0,Below.refl _ _⟩
  case round =>
    obtain ⟨k,hk256,rfl,hJs,hB⟩:=hrel
    rcases k with _ | j
    · gi_wp2
      go_end0
      exact ⟨⟨_,rfl⟩,.inl ⟨_,rfl,by rwa [List.take_of_length_le (by rw [Qf0]; omega)] at hJs⟩⟩
    · have hj:j<256:=by omega
      rw [show ((j+1:Nat):Int)-1=(j:Int) by omega]
      have hkw:wr.heap[kb]? = some (.cells (ints .u8 es) 23):=(hB.block kb hk).trans hkW
      have hX:(ints .u8 es)[j/8]? = some (.int .u8 (nth es (j/8))):=Qaw _ _ _ (by omega)
      have hcx:=QaE hkw hX
      obtain ⟨fn,tmps,assign,body,hy,hR⟩:=hY _ (Qdb es j) wr hJs (by rw [List.length_take,Qf0]; omega)
      have hT:=Lib.hid (Qhx es j hj)
      have b1:=hb.nth (j/8)
      rw [show Qdb es j=nth es (j/8)/2^(j%8)%2 from rfl] at hy
      generalize Qdb es j=bt at *
      generalize nth es (j/8)=v at *
      have q0:(0:Int)≤(j:Int):=by omega
      have q1:(j:Int)/8<32:=by omega
      have q2:IntKind.i64.wrap ((j:Int)/8)=(j:Int)/8:=IntWalk.i64_in _ (by omega)
      have qm:(j:Int).tmod 8=(j:Int)%8:=Int.tmod_eq_emod_of_nonneg (by omega)
      have q3:IntKind.i64.wrap ((j:Int)%8)=(j:Int)%8:=IntWalk.i64_in _ (by omega)
      have q4:(0:Int)≤(j:Int)/8:=by omega
      have q5:((j:Int)/8).toNat=j/8:=by omega
      have q6:((j:Int)%8).toNat=j%8:=by omega
      have q7:(0:Int)≤(j:Int)%8:=by omega
      have q8:(j:Int)%8<8:=by omega
      have hp:(1:Int)≤2^(j%8):=by
        have:(0:Int)<2^(j%8):=Int.pow_pos (by decide)
        omega
      have d1:0≤v/2^(j%8):=Int.ediv_nonneg b1.1 (by omega)
      have d2:v/2^(j%8)≤v:=Int.ediv_le_self _ b1.1
      have w1:IntKind.i64.wrap (v/2^(j%8))=v/2^(j%8):=IntWalk.i64_in _ (by omega)
      have w2:=Qh4 (v/2^(j%8)) (by omega)
      gi_wp2
      refine hR.mono ?_
      rintro e W3 (⟨rfl,hJ3,hk3⟩ | ⟨rfl,hJx3⟩)
      · gi_wp2
        go_roundw
        case rel=>exact ⟨j,by omega,rfl,by rw [hT.out]; exact hJ3,hB.trans hk3⟩
        case measure=>simp [intOf]
      · gi_wp2
        refine bodyPost_ret (results_none rfl _ _ _) rfl ?_
        exact ⟨⟨_,rfl⟩,.inr ⟨_,by rw [←hT.out]; exact List.take_prefix _ _,hJx3⟩⟩
end Go.Proofs.YtdoadngmgmdlbaaDoor.Field
end
section
namespace Go.Proofs.YtdoadngmgmdlbaaDoor.Field
open Go Go.RowKit Go.Shelf
open Rely
attribute [local go_sem] Oper.semAt_some
def Qem (es : List Int):Fact:=fun v W=>∃ kb,v=.func (.func 82) #[] #[.pointer (some ⟨kb,0,none⟩)]∧W.heap[kb]? = some (.cells (ints .u8 es) 23)
theorem Qdn (es : List Int):QbT Ext (Qem es):=fun v W W' hR ⟨kb,h1,h2⟩=>⟨kb,h1,Qaa h2 hR⟩
theorem Qfj (es : List Int) (w:World):Calls Tryd.prog 46 #[.agg (ints .u8 es)] w (QgS w (Qem es)):=by
  have hmf:∀ (fn:Fn) (first cap:Array Value) (w:World),(Instr.makeFunc fn first cap).run Tryd.prog w=.ok (.func fn first cap) w:=fun _ _ _ _=>rfl
  go_enter Tryd.func46,Tryd.ntmps46
  go_wp2_with fail
  exact bodyPost_ret (results_tmp rfl _ _ _) rfl ⟨_,rfl,Qa8 _ _,w.heap.size,rfl,heap_alloc_new _ _⟩
set_option maxRecDepth 100000 in
theorem power (a : Int) (ha:isN a) (es:List Int) (hel:es.length=32) (hb:Qak es) (v:Value) (w:World) (hv:Qem es v w) :
    Calls Tryd.prog 92 #[num a,v] w (Ret w (num (Qbi a (QbC es)))):=by
  obtain ⟨kb,rfl,hkb⟩:=hv
  have HS:Hid (∀ w,Calls Tryd.prog 67 #[.int .i64 1] w (Ret w (num 1))):=Lib.hid fun w=>by have:=QeK 1 (by decide) w; rw [show (1:Int)%p=1 by decide] at this; exact this
  have hnf:∀ W,(binOp .eql 80 (.func (.func 82) #[] #[.pointer (some ⟨kb,0,none⟩)]) Value.nilFunc).run Tryd.prog W=.ok (.bool false) W:=fun W=>kj
  rw [show num a=.agg (numA a) from rfl]
  refine (callsIn_wide (n:=3)).1 ?_
  refine callsIn_of_wp_marks Tryd.func92 rfl trivial ?_ rfl
  simp only [Tryd.ntmps92,List.size_toArray,List.length_cons,List.length_nil,Nat.reduceAdd,Nat.reduceSub,Array.replicate_succ,Array.replicate_zero,List.push_toArray,List.append_toArray,List.nil_append,List.cons_append]
  gi_wp2_with first
    | (refine ⟨trivial,?_⟩
       gi_at_call 67
       refine (callsIn_wide.2 (HS.out _)).mono ?_
       rintro e w' ⟨rfl,hw⟩)
    | (with_reducible show wpListIn _ _ _ _ _ ((⟨_,.store 49 _ _,_,_,_,_⟩:Oper)::_) _ _
       refine Qbl rfl 49 _ _ rfl w'.heap.size (numA 1) rfl rfl 49 _ (heap_alloc_new _ _) QaC rfl (Qbh _) ?_)
  have hO:((w'.alloc (.cells #[.int .u64 0,.int .u64 0,.int .u64 0,.int .u64 0] 49)).setRow w'.heap.size (numA 1)).heap[w'.heap.size]? = some (.cells (numA 1) 49):=setRow_heap _ _ _ _ _ _ (heap_alloc_new _ _)
  have hq:w.heap.size+2≤w'.heap.size:=by have:=hw.size; simpa using this
  have he1:Ext w w':=Ext.trans (Ext.trans (Qa8 _ _) (Qa8 _ _)) hw
  have hA1:w'.heap[w.heap.size]? = some (.cells (numA a) 49):=Qaa (by rw [Below.heap_alloc _ _ _ (by simp)]; exact heap_alloc_new _ _) hw
  have hR1:∃ b:Array Value,b.size=4∧w'.heap[w.heap.size+1]? = some (.cells b 49):=⟨_,rfl,Qaa (by have:=heap_alloc_new (w.alloc (.cells (numA a) 49)) (.cells #[.int .u64 0,.int .u64 0,.int .u64 0,.int .u64 0] 49); simpa using this) hw⟩
  have he2:Ext w' ((w'.alloc (.cells #[.int .u64 0,.int .u64 0,.int .u64 0,.int .u64 0] 49)).setRow w'.heap.size (numA 1)):=QaU (Qa8 _ _) (qR _) _
  have hA:=Qaa hA1 he2
  obtain ⟨b,hbs,hR1⟩:=hR1
  have hR:=Qaa hR1 he2
  have he:=Ext.trans he1 he2
  have hkV:=Qaa hkb he
  have hkl:=Qa6 hkb
  generalize (w'.alloc (.cells #[.int .u64 0,.int .u64 0,.int .u64 0,.int .u64 0] 49)).setRow w'.heap.size (numA 1)=V at *
  generalize w'.heap.size=gO at *
  clear hA1 hR1 he1 he2 hw HS hnf
  have hsz:=he.size
  refine wpIn_rangeFunc_ownF rfl (by omega) (gf:=82) (lb:=#[.pointer (some ⟨kb,0,none⟩)]) rfl trivial (enters_of Tryd.func82 kj rfl)
    (QiD _ (by omega) kb w.heap.size es hel hb V hkV hkl hsz) belowK_t (belowK_b hsz) (Below.refl _ _) (fun _=>rfl)
    (fun pre W=>(W.heap[gO]? = some (.cells (numA (Qbi a pre)) 49)∧W.heap[w.heap.size]? = some (.cells (numA a) 49)∧W.heap[w.heap.size+1]? = some (.cells b 49))∧Below w.heap.size w W)
    (fun _ _ _=>False)
    (OwnFrom.and (Own.from (fun s A B row hs hg hr=>⟨Qbg hs.1 hg hr,Qbg hs.2.1 hg hr,Qbg hs.2.2 hg hr⟩) _) (ownFrom_below (qR _) hsz))
    (fun _ _ _ _ _ hs _ _=>hs)
    ⟨⟨hO,hA,hR⟩,he⟩
    (fun x=>{ tmps:=#[.agg (numA a),.func (.func 82) #[] #[.pointer (some ⟨kb,0,none⟩)],.pointer (some ⟨w.heap.size,0,none⟩),undef,.pointer (some ⟨w.heap.size+1,0,none⟩),.pointer (some ⟨gO,0,none⟩),.int .i64 x,num 1,
      .func (.func 82) #[] #[.pointer (some ⟨kb,0,none⟩)],.bool false,undef,.func (.func 82) #[] #[.pointer (some ⟨kb,0,none⟩)],.int .i64 x,undef,undef,undef,undef,undef,undef,undef,undef,undef],defers:=[] }) ?assign ?body ?done ?stop
  case assign =>
    intro l x W K hK
    gi_wp2
    exact hK
  case body =>
    clear hO hA hR hkV hsz he
    rintro l pre x W ⟨⟨hO,hA,hR⟩,hB⟩ _
    have io:=Qdt a pre
    have HM:Hid (∀ w,Calls Tryd.prog 66 #[.agg (numA (Qbi a pre)),.agg (numA (Qbi a pre))] w (Ret w (.agg (numA (Qbi a pre*Qbi a pre%p))))):=Lib.hid (mul _ _ io io)
    have hsn:=QdB a pre x
    have hlA:=Qa6 hA
    by_cases hx:x=0
    · have hval:Qbi a (pre++[x])=Qbi a pre*Qbi a pre%p:=by rw [hsn]; unfold QeR; rw [if_pos hx]
      have HV:=Lib.hid hval
      clear hval hsn
      generalize hoo:Qbi a pre=o at *
      generalize ho2:o*o%p=o2 at *
      gi_wp2_with first
        | (refine ⟨trivial,?_⟩
           gi_at_call 66
           refine (CallsIn.inRound l (callsIn_wide.2 (HM.out _))).mono ?_
           rintro e w2 ⟨rfl,hw2⟩
           have hO2:=Qaa hO hw2)
        | (with_reducible show wpListIn _ _ _ _ _ ((⟨_,.load 49 _,_,_,_,_⟩:Oper)::_) _ _
           refine Qbt rfl 49 _ rfl gO rfl 49 _ (0,0) _ hO Tryd.underlying49 rfl QaC ?_)
        | (with_reducible show wpListIn _ _ _ _ _ ((⟨_,.store 49 _ _,_,_,_,_⟩:Oper)::_) _ _
           refine Qbl rfl 49 _ _ rfl gO (numA o2) rfl rfl 49 _ hO2 QaC rfl (Qbh _) ?_)
      refine ⟨(Qb2 hw2).trans (Qc9 hO2 _),Qdo (Qel hw2 (by omega)) (by omega) _,⟨?_,(setRow_other _ _ _ _ (by omega)).trans (Qaa hA hw2),(setRow_other _ _ _ _ (by omega)).trans (Qaa hR hw2)⟩,Qdo (hB.trans (Qel hw2 (by omega))) (by omega) _⟩
      rw [HV.out]
      exact setRow_heap _ _ _ _ _ _ hO2
    · have hval:Qbi a (pre++[x])=Qbi a pre*Qbi a pre%p*a%p:=by rw [hsn]; unfold QeR; rw [if_neg hx]
      have HV:=Lib.hid hval
      have HM2:Hid (∀ w,Calls Tryd.prog 66 #[.agg (numA (Qbi a pre*Qbi a pre%p)),.agg (numA a)] w (Ret w (.agg (numA (Qbi a pre*Qbi a pre%p*a%p))))):=Lib.hid (mul _ _ (Qa0 _) ha)
      clear hval hsn
      generalize hoo:Qbi a pre=o at *
      generalize ho2:o*o%p=o2 at *
      generalize ho3:o2*a%p=o3 at *
      gi_wp2_with first
        | (refine ⟨trivial,?_⟩
           gi_at_call 66
           refine (CallsIn.inRound l (callsIn_wide.2 (HM.out _))).mono ?_
           rintro e w2 ⟨rfl,hw2⟩
           clear HM
           have hO2:=Qaa hO hw2
           clear hO)
        | (refine ⟨trivial,?_⟩
           gi_at_call 66
           refine (CallsIn.inRound l (callsIn_wide.2 (HM2.out _))).mono ?_
           rintro e w4 ⟨rfl,hw4⟩
           clear HM2
           have hO4:=Qaa hO3 hw4
           clear hO3)
        | (with_reducible show wpListIn _ _ _ _ _ ((⟨_,.load 49 _,_,_,_,_⟩:Oper)::_) _ _
           refine Qbt rfl 49 _ rfl gO rfl 49 _ (0,0) _ hO Tryd.underlying49 rfl QaC ?_)
        | (with_reducible show wpListIn _ _ _ _ _ ((⟨_,.load 49 _,_,_,_,_⟩:Oper)::_) _ _
           refine Qbt rfl 49 _ rfl gO rfl 49 _ (0,0) _ hO3 Tryd.underlying49 rfl QaC ?_)
        | (with_reducible show wpListIn _ _ _ _ _ ((⟨_,.load 49 _,_,_,_,_⟩:Oper)::_) _ _
           refine Qbt rfl 49 _ rfl w.heap.size rfl 49 _ (0,0) _ hA3 Tryd.underlying49 rfl QaC ?_)
        | (with_reducible show wpListIn _ _ _ _ _ ((⟨_,.store 49 _ _,_,_,_,_⟩:Oper)::_) _ _
           refine Qbl rfl 49 _ _ rfl gO (numA o2) rfl rfl 49 _ hO2 QaC rfl (Qbh _) ?_
           have hO3:=setRow_heap _ _ _ (numA o2) _ _ hO2
           have hA3:=(setRow_other _ gO w.heap.size (numA o2) (by omega)).trans (Qaa hA hw2)
           have hR3:=(setRow_other _ gO (w.heap.size+1) (numA o2) (by omega)).trans (Qaa hR hw2)
           have hk3:=(Qb2 hw2).trans (Qc9 hO2 (numA o2))
           have hb3:=Qdo (Qel (n:=w.heap.size) hw2 (by omega)) (show w.heap.size≤gO by omega) (numA o2)
           clear hO2 hw2)
        | (with_reducible show wpListIn _ _ _ _ _ ((⟨_,.store 49 _ _,_,_,_,_⟩:Oper)::_) _ _
           refine Qbl rfl 49 _ _ rfl gO (numA o3) rfl rfl 49 _ hO4 QaC rfl (Qbh _) ?_)
      have hl3:=Qa6 hA3
      have hb5:=Qdo (hb3.trans (Qel hw4 (by omega))) (show w.heap.size≤gO by omega) (numA o3)
      refine ⟨(hk3.trans (Qb2 hw4)).trans (Qc9 hO4 _),hb5,⟨?_,(setRow_other _ _ _ _ (by omega)).trans (Qaa hA3 hw4),(setRow_other _ _ _ _ (by omega)).trans (Qaa hR3 hw4)⟩,hB.trans hb5⟩
      rw [HV.out]
      exact setRow_heap _ _ _ _ _ _ hO4
  case done =>
    rintro D ys W hD rfl ⟨⟨hO,hA,hR⟩,hB⟩ hK
    gi_wp2_with first
        | (with_reducible show wpListIn _ _ _ _ _ ((⟨_,.load 49 _,_,_,_,_⟩:Oper)::_) _ _
           refine Qbt rfl 49 _ rfl gO rfl 49 _ (0,0) _ hO Tryd.underlying49 rfl QaC ?_)
        | (with_reducible show wpListIn _ _ _ _ _ ((⟨_,.store 49 _ _,_,_,_,_⟩:Oper)::_) _ _
           refine Qbl rfl 49 _ _ rfl (w.heap.size+1) (numA (Qbi a (QbC es))) rfl rfl 49 _ hR QaC hbs (Qbh _) ?_)
    have hK':=(Qc9 hR (numA (Qbi a (QbC es)))).same D _ hK rfl
    refine ⟨by simp,.inl ⟨_,_,rfl,run_takeDeferred hK',?_⟩⟩
    exact ⟨_,results_cell_row (p:=4) rfl _ _ (w.heap.size+1) 49 (numA (Qbi a (QbC es))) (0,0) _ rfl (Qbg (setRow_heap _ _ _ _ _ _ hR) (grownBy_putObj' _ D (.deferred none)) (fun r e=>by cases e; exact ⟨_,hK',rfl⟩)) Tryd.underlying49 rfl QaC,rfl,
      (Qdo hB (by omega) _).trans (belowK_b (w:=w) (qR _) _ D _ _ (by omega) hK' rfl rfl)⟩
  case stop =>
    rintro D c pre W _ _ h _
    exact h.elim
end Go.Proofs.YtdoadngmgmdlbaaDoor.Field
end
section
namespace Go.Proofs.YtdoadngmgmdlbaaDoor.Field
open Go Go.RowKit
open Rely
def expo (lo hi:Int):List Int:=lo::(List.replicate 30 255++[hi])
theorem Qeh (lo hi:Int):(expo lo hi).length=32:=by simp [expo]
theorem Qev (lo hi:Int) (hl:0≤lo∧lo≤255) (hh:0≤hi∧hi≤255):Qak (expo lo hi):=fun x hx=>by
  simp only [expo,List.mem_cons,List.mem_append,List.mem_replicate,List.not_mem_nil,or_false] at hx
  omega
theorem QkY (lo hi:Int):((ints .u8 (mix 32 (fun _=>255) (fun _=>0) 32)).setIfInBounds 0 (.int .u8 lo)).setIfInBounds 31 (.int .u8 hi)=ints .u8 (expo lo hi):=by
  rw [QbA,QbA]
  rfl
theorem exponent (lo hi:Int) (w:World):Calls Tryd.prog 93 #[.int .u8 lo,.int .u8 hi] w (Ret w (.agg (ints .u8 (expo lo hi)))):=by
  go_enter Tryd.func93,Tryd.ntmps93
  go_wp2_with fail
  go_loopw [6,7] (fun c i wr=>∃ k:Nat,k≤32∧i=.int .i64 k∧Ext w wr∧(∃ b,b.size=32∧wr.heap[w.heap.size]? = some (.cells b 23)) ∧
    wr.heap[w.heap.size+1]? = some (.cells (ints .u8 (mix 32 (fun _=>255) (fun _=>0) k)) 23)) (fun _ i _=>32-(intOf i).toNat)
  case atStart=>exact ⟨0,by omega,rfl,Ext.trans (Qa8 _ _) (Qa8 _ _),⟨_,rfl,Qgc _ _ _⟩,Qgb _ _ _⟩
  case round =>
    obtain ⟨k,hk,rfl,he,⟨b,hbs,hB⟩,hC⟩:=hrel
    by_cases hlt:k<32
    · have hZ:(ints .u8 (mix 32 (fun _=>255) (fun _=>0) k))[k]? = some (.int .u8 0):=by rw [Qaw _ _ _ (by rw [mix_len]; omega),QcH _ _ _ _ _ (by omega),if_neg (by omega)]
      have hS:(ints .u8 (mix 32 (fun _=>255) (fun _=>0) k)).setIfInBounds k (.int .u8 255)=ints .u8 (mix 32 (fun _=>255) (fun _=>0) (k+1)):=by rw [QbA,←mix_set _ _ _ _ (by omega)]
      have hcx:=QaE hC hZ
      have hfx:=Qb4 hC k
      have q5:(k:Int)<32:=by omega
      go_wp2
      exact ⟨⟨k+1,by omega,by go_num,QcI he (by omega) _ _,⟨b,hbs,(QaI _ _ (by omega)).trans hB⟩,(QcF _ _ hC).trans (by rw [hS])⟩,by simp [intOf]; omega⟩
    · obtain rfl:k=32:=by omega
      have hX:(ints .u8 (mix 32 (fun _=>255) (fun _=>0) 32))[0]? = some (.int .u8 255):=by rw [Qaw _ _ _ (by rw [mix_len]; omega),QcH _ _ _ _ _ (by omega),if_pos (by omega)]
      have hY:(ints .u8 (mix 32 (fun _=>255) (fun _=>0) 32))[31]? = some (.int .u8 255):=by rw [Qaw _ _ _ (by rw [mix_len]; omega),QcH _ _ _ _ _ (by omega),if_pos (by omega)]
      have hcx:=QaE hC hX
      have hfx:=Qb4 hC 0
      have hC2:=QcF 0 (.int .u8 lo) hC
      have hcy:(wr.setCell ⟨w.heap.size+1,0,none⟩ (.int .u8 lo)).cell? ⟨w.heap.size+1,31,none⟩=some (.int .u8 255):=QaE hC2 (by rw [Array.getElem?_setIfInBounds_ne (by decide)]; exact hY)
      have hfy:=Qb4 hC2 31
      have hB2:=(QaI (W:=wr) 0 (.int .u8 lo) (show w.heap.size≠w.heap.size+1 by omega)).trans hB
      have he2:=QcI he (show w.heap.size≤w.heap.size+1 by omega) 0 (.int .u8 lo)
      generalize hwz:wr.setCell ⟨w.heap.size+1,0,none⟩ (.int .u8 lo)=wz at *
      have hC3:=QcF 31 (.int .u8 hi) hC2
      rw [QkY] at hC3
      have hB3:=(QaI (W:=wz) 31 (.int .u8 hi) (show w.heap.size≠w.heap.size+1 by omega)).trans hB2
      have he3:=QcI he2 (show w.heap.size≤w.heap.size+1 by omega) 31 (.int .u8 hi)
      generalize hwy:wz.setCell ⟨w.heap.size+1,31,none⟩ (.int .u8 hi)=wy at *
      have hi':(Tryd.prog.info? 23).map (·.size)=some (ints .u8 (expo lo hi)).size:=by rw [infoKey,Qaf,Qeh]
      have hbl:b.size=(ints .u8 (expo lo hi)).size:=by rw [hbs,Qaf,Qeh]
      clear hC hC2 hB hB2 he he2
      go_wp2_with first
        | (with_reducible show wpList _ _ _ ((⟨_,.load 23 _,_,_,_,_⟩:Oper)::_) _ _
           refine wpList_load_row rfl 23 _ rfl (w.heap.size+1) rfl 23 _ (0,0) _ hC3 Tryd.underlying23 rfl hi' ?_)
        | (with_reducible show wpList _ _ _ ((⟨_,.store 23 _ _,_,_,_,_⟩:Oper)::_) _ _
           refine wpList_store_row rfl 23 _ _ rfl w.heap.size _ rfl rfl 23 _ hB3 hi' hbl (ints_one _ _) ?_)
      exact bodyPost_ret (results_cell_row (p:=4) rfl _ _ w.heap.size 23 _ (0,0) _ rfl (setRow_heap _ _ _ _ _ _ hB3) Tryd.underlying23 rfl hi') rfl ⟨rfl,QaU he3 (qR _) _⟩
def invN (a : Int):Int:=Qbi a (QbC (expo 235 127))
theorem QeE (a : Int):isN (invN a):=Qdt _ _
theorem inv (a : Int) (ha:isN a) (w:World):Calls Tryd.prog 70 #[num a] w (Ret w (num (invN a))):=by
  have HE:Hid (∀ w,Calls Tryd.prog 93 #[.int .u8 235,.int .u8 127] w (Ret w (.agg (ints .u8 (expo 235 127))))):=Lib.hid (exponent 235 127)
  have HB:Hid (∀ w,Calls Tryd.prog 46 #[.agg (ints .u8 (expo 235 127))] w (QgS w (Qem (expo 235 127)))):=Lib.hid (Qfj _)
  have HP:Hid (∀ v w,Qem (expo 235 127) v w→Calls Tryd.prog 92 #[num a,v] w (Ret w (num (invN a)))):=Lib.hid fun v w hv=>power a ha (expo 235 127) (Qeh _ _) (Qev _ _ (by decide) (by decide)) v w hv
  generalize expo 235 127=ex at *
  generalize invN a=r at *
  rw [show num a=.agg (numA a) from rfl] at HP ⊢
  go_enter Tryd.func70,Tryd.ntmps70
  go_wp2_with fail
  generalize hW:(w.alloc _).alloc _=W0
  have hA:W0.heap[w.heap.size]? = some (.cells (numA a) 49):=by rw [←hW]; exact Qgc _ _ _
  have hC:∃ b:Array Value,b.size=4∧W0.heap[w.heap.size+1]? = some (.cells b 49):=by rw [←hW]; exact ⟨_,rfl,Qgb _ _ _⟩
  obtain ⟨b,hbs,hC⟩:=hC
  have he:Ext w W0:=by rw [←hW]; exact Ext.trans (Qa8 _ _) (Qa8 _ _)
  clear hW
  refine Qa4 Ext 3 7 [⟨none,[(1,none)]⟩,⟨none,[]⟩,⟨none,[(4,some 1)]⟩] kj kj rfl Ext.refl Ext.trans (fun F r0 hr hF=>?_)
  have f1:r0 1=.pointer (some ⟨w.heap.size,0,none⟩):=by rw [hr]; rfl
  clear hr
  simp only [List.take_succ_cons,List.take_zero]
  refine Qas (.agg (numA a)) (fun ρ W hR hh=>?_) ?_
  · exact Qbw 49 (.tmp _) rfl _ (Eq.trans hh.1 f1) 49 _ (0,0) _ (Qaa (Qaa hA (Qah _)) hR) Tryd.underlying49 rfl QaC
  refine Qas (.agg (ints .u8 ex)) (fun ρ W hR hh=>?_) ?_
  · simp only [guarded,QaN]
    go_simp
    exact ⟨Ext.refl _,(HE.out _).mono fun _ _ h=>h.const⟩
  refine QdV (Qem ex) (Qdn ex) (fun ρ W hR hh=>?_) ?_
  · have h4:ρ 4=.agg (ints .u8 ex):=hh.1
    simp only [guarded,QaN]
    go_simp
    exact ⟨Ext.refl _,(HB.out _).mono fun _ _ h=>h.fact⟩
  simp only [List.cons_append,List.nil_append]
  refine hF.out fun W hR=>?_
  simp only [List.take_succ_cons,List.take_zero,List.drop_succ_cons,List.drop_zero,fin,forall_eq,Act.put,List.setIfInBounds_toArray,List.set_cons_zero,List.set_cons_succ]
  intro v hv
  have HP':=Lib.hid (HP.out v W hv)
  clear hF HP HE HB hv
  go_wp2_with first
    | (go_at_call 92
       (with_reducible refine HP'.out.mono ?_)
       rintro e w' ⟨rfl,hw⟩
       have hC':=Qaa (Qaa (Qaa hC (Qah _)) hR) hw
       have he':=Ext.trans (Ext.trans (Ext.trans he (Qah _)) hR) hw)
    | (with_reducible show wpList _ _ _ ((⟨_,.store 49 _ _,_,_,_,_⟩:Oper)::_) _ _
       refine wpList_store_row rfl 49 _ _ rfl (w.heap.size+1) (numA r) rfl rfl 49 _ hC' QaC hbs (Qbh _) ?_)
  exact bodyPost_ret (QcQ (t:=2) rfl rfl (setRow_heap _ _ _ _ _ _ hC')) rfl ⟨rfl,QaU he' (by omega) _⟩
end Go.Proofs.YtdoadngmgmdlbaaDoor.Field
end
section
namespace Go.Proofs.YtdoadngmgmdlbaaDoor.Field
open Go Go.RowKit
open Rely
def lbit (e : Int) (i:Nat):Int:=limb e (i/16)/2^(i%16)%2
end Go.Proofs.YtdoadngmgmdlbaaDoor.Field
end
section
namespace Go.Proofs.YtdoadngmgmdlbaaDoor.Field
open Go Go.RowKit
open Rely
theorem Qdm (A k P:Nat):((A:Int)^k)%(P:Int)=((A^k%P:Nat):Int):=by
  rw [Int.natCast_emod,Int.natCast_pow]
theorem Qdz (x : Int) (hx:isN x) (h0:x≠0) (k:Nat) (hk:k=57896044618658097711785492504343953926634992332820282019728792003956564819949-1):x^k%p=1:=by
  obtain ⟨A,rfl⟩:=Int.eq_ofNat_of_zero_le hx.1
  have hA:A<57896044618658097711785492504343953926634992332820282019728792003956564819949:=by have:=hx.2; unfold p at this; omega
  have hA0:A≠0:=fun e=>h0 (by rw [e]; rfl)
  have hf:=Prime.p25519.2.1 A (by rw [Nat.mod_eq_of_lt hA]; exact hA0)
  rw [←hk] at hf
  have:=Qdm A k 57896044618658097711785492504343953926634992332820282019728792003956564819949
  rw [hf] at this
  exact this
theorem Qm6 : cnt (QbC (expo 235 127))+1=57896044618658097711785492504343953926634992332820282019728792003956564819949-1:=by decide +kernel
theorem Qm5 (k : Nat) (h:k+1=57896044618658097711785492504343953926634992332820282019728792003956564819949-1) (x:Int) (hx:isN x) (h0:x≠0):x*(x^k%p)%p=1:=by
  have e:x^k*x=x^(k+1):=(Int.pow_succ x k).symm
  rw [Int.mul_emod,Int.emod_emod,←Int.mul_emod,Int.mul_comm,e]
  generalize k+1=m at *
  exact Qdz x hx h0 m h
theorem QfT (x : Int) (hx:isN x) (h0:x≠0):x*invN x%p=1:=by
  unfold invN
  rw [QhD]
  exact Qm5 _ Qm6 x hx h0
end Go.Proofs.YtdoadngmgmdlbaaDoor.Field
end
section
namespace Go.Proofs.YtdoadngmgmdlbaaDoor.Field
open Go Go.RowKit
open Rely
theorem modL (a b:Int):a%p*b%p=a*b%p:=by rw [Int.mul_emod,Int.emod_emod,←Int.mul_emod]
theorem modR (a b:Int):a*(b%p)%p=a*b%p:=by rw [Int.mul_emod,Int.emod_emod,←Int.mul_emod]
theorem QeY (x : Int) (hx:isN x):x*1%p=x:=by rw [Int.mul_one,Int.emod_eq_of_lt hx.1 hx.2]
end Go.Proofs.YtdoadngmgmdlbaaDoor.Field
end
section
namespace Go.Proofs.YtdoadngmgmdlbaaDoor.Field
open Go Go.RowKit
open Rely
theorem Qm1 (es : List Int) (hb:Qak es) (k:Nat) (hk:k<16):limb (leAt es 0 32) k=Qe1 es k:=by
  have h:=QhI es 16
  rw [show 2*16=32 from rfl] at h
  rw [←h]
  exact Qm0 (Qe1 es) 16 (fun i _=>Qiz es hb i) k hk
theorem QhP (es : List Int) (hb:Qak es):0≤leAt es 0 32∧leAt es 0 32<big:=by
  have h:=Qdy es hb 0 32
  rw [show (256:Int)^32=big by decide] at h
  exact h
theorem Qgz (a b:Int) (ha:0≤a∧a≤255) (r:Nat) (hr:r<8):(a+256*b)/2^r%2=a/2^r%2:=by
  rcases (by omega:r=0∨r=1∨r=2∨r=3∨r=4∨r=5∨r=6∨r=7) with rfl | rfl | rfl | rfl | rfl | rfl | rfl | rfl
  all_goals
    simp only [Int.reducePow]
    omega
theorem QfK (a b:Int) (ha:0≤a∧a≤255) (r:Nat) (hr:r<8):(a+256*b)/2^(r+8)%2=b/2^r%2:=by
  rcases (by omega:r=0∨r=1∨r=2∨r=3∨r=4∨r=5∨r=6∨r=7) with rfl | rfl | rfl | rfl | rfl | rfl | rfl | rfl
  all_goals
    simp only [Int.reducePow,Nat.reduceAdd]
    omega
theorem Qm2 (es : List Int) (hb:Qak es) (i:Nat) (hi:i<256):lbit (leAt es 0 32) i=Qdb es i:=by
  unfold lbit Qdb
  rw [Qm1 es hb (i/16) (by omega)]
  unfold Qe1
  rcases Nat.lt_or_ge (i%16) 8 with h | h
  · rw [show i/8=2*(i/16) by omega,show i%8=i%16 by omega]
    exact Qgz _ _ (hb.nth _) _ h
  · obtain ⟨s,hs⟩:∃ s,i%16=s+8:=⟨i%16-8,by omega⟩
    rw [show i/8=2*(i/16)+1 by omega,show i%8=s by omega,hs]
    exact QfK _ _ (hb.nth _) _ (by omega)
end Go.Proofs.YtdoadngmgmdlbaaDoor.Field
end
section
namespace Go.Proofs.YtdoadngmgmdlbaaDoor.Field
open Go Go.RowKit Go.Shelf
open Rely
attribute [local go_sem] Oper.semAt_some
def Same (kb : Nat) (A B:World):Prop:=B.heap[kb]? = A.heap[kb]?
theorem Same.refl (kb : Nat) (A:World):Same kb A A:=rfl
theorem Same.trans' {kb : Nat} {A B C:World} (h:Same kb A B) (k:Same kb B C):Same kb A C:=Eq.trans k h
theorem Qgl {kb : Nat} {w:World} (hk:kb<w.heap.size) (W:World) (l:Nat) (o o':Obj) (hl:w.heap.size≤l) (h:W.heap[l]? = some o) (_:o.isCells=false) (_:o.isWalk=false):Same kb W (W.putObj l o') :=
  World.putObj_heap_other (by omega)
end Go.Proofs.YtdoadngmgmdlbaaDoor.Field
end
section
namespace Go.Proofs.YtdoadngmgmdlbaaDoor.Field
open Go Go.RowKit
open Rely
def QaQ (a : Int):Int:=Qbi a (QbC (expo 254 15))
def Qb0 : Int:=Qbi 2 (QbC (expo 251 31))
theorem QdY (a : Int):isN (QaQ a):=Qdt _ _
theorem Qjd : isN Qb0:=Qdt _ _
theorem QlH : isN 2:=by unfold isN p; decide
theorem QdQ : isN 0:=by unfold isN p; decide
def QaT (r : Int):Int:=if r%2=1 then (0-r)%p else r
theorem Qfw (r : Int) (h:isN r):isN (QaT r):=by
  unfold QaT
  split
  · exact Qa0 _
  · exact h
theorem Qi9 (r : Int) (hr:isN r) (h:r%2=1):QaT r=p-r:=by
  unfold QaT
  rw [if_pos h]
  unfold isN p at *
  omega
def Qkp (a r:Int):Int:=if r*r%p=a then QaT r else 0
def Qda (a : Int):Int:=if QaQ a*QaQ a%p=a then QaT (QaQ a) else Qkp a (QaQ a*Qb0%p)
def Qb8 (a : Int):Bool:=decide (QaQ a*QaQ a%p=a) || decide (QaQ a*Qb0%p*(QaQ a*Qb0%p)%p=a)
theorem Qjc (a : Int):isN (Qda a):=by
  unfold Qda Qkp
  split
  · exact Qfw _ (QdY a)
  · split
    · exact Qfw _ (Qa0 _)
    · exact QdQ
theorem Qic : cnt (QbC (expo 254 15))=7237005577332262213973186563042994240829374041602535252466099000494570602494:=by decide +kernel
theorem QjK : cnt (QbC (expo 251 31))=14474011154664524427946373126085988481658748083205070504932198000989141204987:=by decide +kernel
end Go.Proofs.YtdoadngmgmdlbaaDoor.Field
end
section
namespace Go.Proofs.YtdoadngmgmdlbaaDoor.Field
open Go Go.RowKit
open Rely
theorem QcS (a : Int):∀ n:Nat,(a%p)^n%p=a^n%p
  | 0=>by rw [Int.pow_zero,Int.pow_zero]
  | n+1=>by
    rw [Int.pow_succ,Int.pow_succ,modR,Int.mul_emod,QcS a n,←Int.mul_emod]
theorem euclid (u v:Nat) (h:57896044618658097711785492504343953926634992332820282019728792003956564819949 ∣ u*v) :
    57896044618658097711785492504343953926634992332820282019728792003956564819949 ∣ u∨57896044618658097711785492504343953926634992332820282019728792003956564819949 ∣ v:=by
  have hp:=Prime.p25519.1
  generalize 57896044618658097711785492504343953926634992332820282019728792003956564819949=P at *
  rcases hp.2 (Nat.gcd P u) (Nat.gcd_dvd_left P u) with hg | hg
  · right
    have hc:Nat.Coprime P u:=hg
    exact hc.dvd_of_dvd_mul_left h
  · left
    rw [←hg]
    exact Nat.gcd_dvd_right P u
theorem Qkl (r x:Int) (hr:isN r) (hx:isN x) (h:r*r%p=x*x%p):r=x∨r=(0-x)%p:=by
  obtain ⟨R,rfl⟩:=Int.eq_ofNat_of_zero_le hr.1
  obtain ⟨X,rfl⟩:=Int.eq_ofNat_of_zero_le hx.1
  have hR:=hr.2
  have hX:=hx.2
  have h1:(p:Int) ∣ (R:Int)*R-(X:Int)*X:=Int.dvd_of_emod_eq_zero (by rw [Int.sub_emod,h,Int.sub_self]; rfl)
  have h2:(p:Int) ∣ ((R:Int)+p-X)*((R:Int)+X):=by
    have e:((R:Int)+p-X)*((R:Int)+X)=((R:Int)*R-(X:Int)*X)+p*((R:Int)+X):=by grind
    rw [e]
    exact Int.dvd_add h1 (Int.dvd_mul_right _ _)
  have h3:57896044618658097711785492504343953926634992332820282019728792003956564819949 ∣ (R+57896044618658097711785492504343953926634992332820282019728792003956564819949-X)*(R+X):=by
    unfold p at h2 hX
    rw [←Int.natCast_dvd_natCast]
    have e:(((R+57896044618658097711785492504343953926634992332820282019728792003956564819949-X)*(R+X):Nat):Int)=((R:Int)+57896044618658097711785492504343953926634992332820282019728792003956564819949-X)*((R:Int)+X):=by
      rw [Int.natCast_mul,Int.natCast_sub (by omega)]
      rfl
    rw [e]
    exact h2
  unfold p at *
  rcases euclid _ _ h3 with ⟨c,hc⟩ | ⟨c,hc⟩
  · left
    omega
  · right
    omega
theorem Qnf (E h k:Nat) (hE:4*E=h+2) (hh:2*h=k) (hk:k=57896044618658097711785492504343953926634992332820282019728792003956564819949-1) (x:Int) (hx:isN x) (h0:x≠0) :
    (x*x%p)^E%p*((x*x%p)^E%p)%p=x*x%p*(x^h%p)%p∧x^h%p*(x^h%p)%p=1:=by
  constructor
  · rw [QcS,←Int.mul_emod,←Int.pow_add,←Int.mul_emod]
    have e:(x*x)^(E+E)=x*x*x^h:=by
      have e1:x*x=x^2:=by rw [Int.pow_succ,Int.pow_succ,Int.pow_zero,Int.one_mul]
      rw [e1,←Int.pow_mul,←Int.pow_add]
      congr 1
      omega
    rw [e]
  · rw [←Int.mul_emod,←Int.pow_add,show h+h=k by omega]
    exact Qdz x hx h0 k hk
theorem QlY : Prime.pm 57896044618658097711785492504343953926634992332820282019728792003956564819949 256 2 28948022309329048855892746252171976963317496166410141009864396001978282409974=57896044618658097711785492504343953926634992332820282019728792003956564819948:=by decide +kernel
theorem Qkk (m : Nat) (h:m=28948022309329048855892746252171976963317496166410141009864396001978282409974):(2:Int)^m%p=p-1:=by
  have h1:=Prime.pm_eq 57896044618658097711785492504343953926634992332820282019728792003956564819949 256 2 m (by rw [h]; decide)
  have h2:Prime.pm 57896044618658097711785492504343953926634992332820282019728792003956564819949 256 2 m=57896044618658097711785492504343953926634992332820282019728792003956564819948:=by rw [h]; exact QlY
  rw [h2] at h1
  have h3:=Qdm 2 m 57896044618658097711785492504343953926634992332820282019728792003956564819949
  rw [←h1] at h3
  exact h3
theorem QfE : Qb0*Qb0%p=p-1:=by
  have hc:=QjK
  unfold Qb0
  rw [QhD]
  generalize cnt (QbC (expo 251 31))=K at *
  rw [←Int.mul_emod,←Int.pow_add]
  exact Qkk (K+K) (by omega)
theorem QeT (x : Int) (hx:isN x) (h:x≠0):(0-x)%p=p-x:=by
  unfold isN p at *
  omega
theorem QiA (x : Int) (hx:isN x):QaT ((0-x)%p)=QaT x:=by
  by_cases h:x=0
  · subst h; rfl
  · have hpar:(p-x)%2=1-x%2:=by unfold p; omega
    have hN:isN (p-x):=by unfold isN at *; omega
    have h0:p-x≠0:=by unfold isN at hx; omega
    rw [QeT x hx h]
    unfold QaT
    by_cases h2:x%2=1
    · rw [if_neg (by omega),if_pos h2,QeT x hx h]
    · rw [if_pos (by omega),if_neg h2,QeT (p-x) hN h0]
      omega
theorem Qfa (a r:Int) (h1:QaQ a=r) (h2:r*r%p=a):Qb8 a=true∧Qda a=QaT r:=by
  unfold Qb8 Qda
  rw [h1,if_pos h2,decide_eq_true h2]
  exact ⟨rfl,rfl⟩
theorem QgC (a r:Int) (h1:QaQ a*Qb0%p=r) (h0:QaQ a*QaQ a%p≠a) (h2:r*r%p=a):Qb8 a=true∧Qda a=QaT r:=by
  unfold Qb8 Qda Qkp
  rw [h1,if_neg h0,if_pos h2,decide_eq_true h2]
  simp
theorem Qjb : Qb8 0=true∧Qda 0=QaT 0:=by
  refine Qfa 0 0 ?_ (by decide)
  have hc:=Qic
  unfold QaQ
  rw [QhD]
  generalize cnt (QbC (expo 254 15))=E at *
  rw [Int.zero_pow (by omega)]
  rfl
theorem QkV (a b:Int):a*b*(a*b)=a*a*(b*b):=by grind
theorem Qne (a i:Int):a*i%p*(a*i%p)%p=(a*a%p)*(i*i%p)%p:=by rw [←Int.mul_emod,←Int.mul_emod,QkV]
theorem Qn4 (a : Int) (ha:isN a):a*(p-1)%p*(p-1)%p=a:=by
  rw [modL,Int.mul_assoc,←modR,show (p-1)*(p-1)%p=1 by decide,QeY a ha]
theorem Qn5 (a : Int) (ha:isN a) (h:a≠0):a*(p-1)%p≠a:=by
  have e:a*(p-1)=(0-a)+p*a:=by grind
  rw [e,Int.add_mul_emod_self_left,QeT a ha h]
  unfold p
  omega
theorem QkS (E : Nat) (hc:E=7237005577332262213973186563042994240829374041602535252466099000494570602494):∃ h:Nat,4*E=h+2∧2*h=57896044618658097711785492504343953926634992332820282019728792003956564819949-1 :=
  ⟨28948022309329048855892746252171976963317496166410141009864396001978282409974,by omega,by decide⟩
theorem QnT (x : Int) (hx:isN x) (h:x≠0):x*x%p≠0:=fun e=>by
  rcases Qkl x 0 hx QdQ (by rw [e]; decide) with h1 | h1
  · exact h h1
  · exact h (h1.trans (by decide))
theorem QiZ (x : Int) (hx:isN x) (r:Int) (hr:isN r) (e:r*r%p=x*x%p):QaT r=QaT x:=by
  rcases Qkl r x hr hx e with h1 | h1
  · rw [h1]
  · rw [h1]; exact QiA x hx
theorem Qko (x : Int) (hx:isN x) (h0:x≠0):Qb8 (x*x%p)=true∧Qda (x*x%p)=QaT x:=by
  obtain ⟨h,hE,hh⟩:=QkS (cnt (QbC (expo 254 15))) Qic
  have hA:QaQ (x*x%p)=(x*x%p)^cnt (QbC (expo 254 15))%p:=by unfold QaQ; rw [QhD]
  generalize cnt (QbC (expo 254 15))=E at *
  obtain ⟨q1,q2⟩:=Qnf E h (2*h) hE rfl hh x hx h0
  rw [←hA] at q1
  have hsN:isN (x^h%p):=Qa0 _
  have ha:=QnT x hx h0
  have haN:isN (x*x%p):=Qa0 _
  have hrN:=QdY (x*x%p)
  have back:=QiZ x hx
  clear hE hh hA
  generalize x^h%p=s at *
  generalize x*x%p=a at *
  have q2':s*s%p=1*1%p:=by rw [q2]; decide
  rcases Qkl s 1 hsN Qjy q2' with h1 | h1
  · have q3:QaQ a*QaQ a%p=a:=by rw [q1,h1,QeY a haN]
    have:=Qfa _ _ rfl q3
    rw [back _ hrN q3] at this
    exact this
  · have h2:s=p-1:=by rw [h1]; decide
    have q3:QaQ a*QaQ a%p=a*(p-1)%p:=by rw [q1,h2]
    have q4:QaQ a*QaQ a%p≠a:=by rw [q3]; exact Qn5 a haN ha
    have q5:QaQ a*Qb0%p*(QaQ a*Qb0%p)%p=a:=by rw [Qne,q3,QfE,Qn4 a haN]
    have:=QgC _ _ rfl q4 q5
    rw [back _ (Qa0 _) q5] at this
    exact this
theorem Qhe (x : Int) (hx:isN x):Qb8 (x*x%p)=true∧Qda (x*x%p)=QaT x:=by
  by_cases h0:x=0
  · subst h0
    rw [show (0:Int)*0%p=0 by decide]
    exact Qjb
  · exact Qko x hx h0
end Go.Proofs.YtdoadngmgmdlbaaDoor.Field
end
section
namespace Go.Proofs.YtdoadngmgmdlbaaDoor.Field
open Go Go.RowKit
open Rely
theorem Qb1 {Pr : Program} {fn:Func} {q t:Tmp} {ty:TypeId} (h:fn.results=#[.cell q ty,.tmp t]) (tmps:Array Value) (w:World) (g:Nat) (tt:TypeId) (cs:Array Value) (fr:Nat×Nat) (d:TypeDesc)
    (hp:tmps.getD q undef=.pointer (some ⟨g,0,none⟩)) (v:Value) (ht:tmps.getD t undef=v) (hg:w.heap[g]? = some (.cells cs tt fr))
    (hu:Pr.underlying ty=some d) (hd:(match d with | .struct _ | .array _ _=>true | _=>false)=true) (hi:(Pr.info? ty).map (·.size)=some cs.size) :
    (results fn tmps).run Pr w=.ok (.tuple #[.agg cs,v]) w:=by
  have hp':tmps[q]?.getD undef=.pointer (some ⟨g,0,none⟩):=by simpa using hp
  have ht':tmps[t]?.getD undef=v:=by simpa using ht
  simp [results,h,hp',ht',asAddr,run_loadVar_row w g tt ty cs fr d hg hu hd hi]
set_option maxRecDepth 100000 in
theorem root (a : Int) (ha:isN a) (w:World):Calls Tryd.prog 71 #[num a] w (Ret w (.tuple #[num (Qda a),.bool (Qb8 a)])):=by
  have HE1:Hid (∀ w,Calls Tryd.prog 93 #[.int .u8 254,.int .u8 15] w (Ret w (.agg (ints .u8 (expo 254 15))))):=Lib.hid (exponent 254 15)
  have HB1:Hid (∀ w,Calls Tryd.prog 46 #[.agg (ints .u8 (expo 254 15))] w (QgS w (Qem (expo 254 15)))):=Lib.hid (Qfj _)
  have HP1:Hid (∀ v w,Qem (expo 254 15) v w→Calls Tryd.prog 92 #[num a,v] w (Ret w (num (QaQ a)))):=Lib.hid fun v w hv=>power a ha (expo 254 15) (Qeh _ _) (Qev _ _ (by decide) (by decide)) v w hv
  have HE2:Hid (∀ w,Calls Tryd.prog 93 #[.int .u8 251,.int .u8 31] w (Ret w (.agg (ints .u8 (expo 251 31))))):=Lib.hid (exponent 251 31)
  have HB2:Hid (∀ w,Calls Tryd.prog 46 #[.agg (ints .u8 (expo 251 31))] w (QgS w (Qem (expo 251 31)))):=Lib.hid (Qfj _)
  have HP2:Hid (∀ v w,Qem (expo 251 31) v w→Calls Tryd.prog 92 #[num 2,v] w (Ret w (num Qb0))):=Lib.hid fun v w hv=>power 2 QlH (expo 251 31) (Qeh _ _) (Qev _ _ (by decide) (by decide)) v w hv
  have HS2:Hid (∀ w,Calls Tryd.prog 67 #[.int .i64 2] w (Ret w (num 2))):=Lib.hid fun w=>by have:=QeK 2 (by decide) w; rw [show (2:Int)%p=2 by decide] at this; exact this
  have i_ra:=QdY a
  have i_rb:isN (QaQ a*Qb0%p):=Qa0 _
  have HM0:Hid (∀ w,Calls Tryd.prog 66 #[num (QaQ a),num (QaQ a)] w (Ret w (num (QaQ a*QaQ a%p)))):=Lib.hid (mul _ _ i_ra i_ra)
  have HMI:Hid (∀ w,Calls Tryd.prog 66 #[num (QaQ a),num Qb0] w (Ret w (num (QaQ a*Qb0%p)))):=Lib.hid (mul _ _ i_ra Qjd)
  have HM1:Hid (∀ w,Calls Tryd.prog 66 #[num (QaQ a*Qb0%p),num (QaQ a*Qb0%p)] w (Ret w (num (QaQ a*Qb0%p*(QaQ a*Qb0%p)%p)))):=Lib.hid (mul _ _ i_rb i_rb)
  have i_s0:isN (QaQ a*QaQ a%p):=Qa0 _
  have i_s1:isN (QaQ a*Qb0%p*(QaQ a*Qb0%p)%p):=Qa0 _
  have FN:Hid (Qda a=(if QaQ a*QaQ a%p=a then QaT (QaQ a) else if QaQ a*Qb0%p*(QaQ a*Qb0%p)%p=a then QaT (QaQ a*Qb0%p) else 0)):=Lib.hid rfl
  have FB:Hid (Qb8 a=(decide (QaQ a*QaQ a%p=a) || decide (QaQ a*Qb0%p*(QaQ a*Qb0%p)%p=a))):=Lib.hid rfl
  generalize hs0:QaQ a*QaQ a%p=s0 at *
  generalize hs1:QaQ a*Qb0%p*(QaQ a*Qb0%p)%p=s1 at *
  clear hs0 hs1
  generalize QaQ a*Qb0%p=rb at *
  generalize QaQ a=ra at *
  generalize Qb0=ri at *
  generalize expo 254 15=x1 at *
  generalize expo 251 31=x2 at *
  rw [show num a=.agg (numA a) from rfl]
  go_enter Tryd.func71,Tryd.ntmps71
  go_wp2_with fail
  generalize hW:(w.alloc _).alloc _=W0
  have hA:W0.heap[w.heap.size]? = some (.cells (numA a) 49):=by rw [←hW]; exact Qgc _ _ _
  have hC:∃ b:Array Value,b.size=4∧W0.heap[w.heap.size+1]? = some (.cells b 49):=by rw [←hW]; exact ⟨_,rfl,Qgb _ _ _⟩
  obtain ⟨b,hbs,hC⟩:=hC
  have he:Ext w W0:=by rw [←hW]; exact Ext.trans (Qa8 _ _) (Qa8 _ _)
  clear hW
  have hsz:=he.size
  have hlC:=Qa6 hC
  have HA:Hid (∀ W,Ext W0.drew W→W.heap[w.heap.size]? = some (.cells (numA a) 49)):=Lib.hid fun W hR=>Qaa (Qaa hA (Qah _)) hR
  refine Qa4 Ext 5 34 [⟨none,[(1,none)]⟩,⟨none,[]⟩,⟨none,[(6,some 1)]⟩,⟨none,[(5,some 0),(7,some 2)]⟩,⟨none,[]⟩] kj kj rfl Ext.refl Ext.trans (fun F r0 hr hF=>?_)
  have f1:r0 1=.pointer (some ⟨w.heap.size,0,none⟩):=by rw [hr]; rfl
  clear hr
  simp only [List.take_succ_cons,List.take_zero]
  refine Qas (num a) (fun ρ W hR hh=>?_) ?_
  · clear hF
    exact Qbn (.tmp _) rfl _ _ (Eq.trans hh.1 f1) (HA.out W hR)
  refine Qas (.agg (ints .u8 x1)) (fun ρ W hR hh=>?_) ?_
  · clear hF
    simp only [guarded,QaN]
    go_simp
    exact ⟨Ext.refl _,(HE1.out _).mono fun _ _ h=>h.const⟩
  refine QdV (Qem x1) (Qdn x1) (fun ρ W hR hh=>?_) ?_
  · clear hF
    have h6:ρ 6=.agg (ints .u8 x1):=hh.1
    simp only [guarded,QaN]
    go_simp
    exact ⟨Ext.refl _,(HB1.out _).mono fun _ _ h=>h.fact⟩
  refine Qas (num ra) (fun ρ W hR hh=>?_) ?_
  · clear hF
    have h5:ρ 5=num a:=hh.1
    have h7:Qem x1 (ρ 7) W:=hh.2.1
    simp only [guarded,QaN]
    go_simp
    exact ⟨Ext.refl _,(HP1.out _ _ h7).mono fun _ _ h=>h.const⟩
  refine QdV (Ql8 49 4 W0.heap.size) (QfW _ _ _) (fun ρ W hR hh=>?_) ?_
  · have hsz:W0.heap.size≤W.heap.size:=hR.size
    simp only [guarded,QaN]
    go_simp
    exact ⟨Qa8 _ _,_,rfl,by omega,by simp,_,rfl,heap_alloc_new _ _⟩
  simp only [List.cons_append,List.nil_append]
  refine hF.out fun W1 hR1=>?_
  simp only [List.take_succ_cons,List.take_zero,List.drop_succ_cons,List.drop_zero,fin,forall_eq,Act.put,List.setIfInBounds_toArray,List.set_cons_zero,List.set_cons_succ]
  rintro vb-vg ⟨gr,rfl,lg,ug,cg,sg,kg⟩
  clear hF f1
  refine wpList_store_row rfl 49 _ _ rfl gr (numA ra) rfl rfl 49 _ kg QaC sg (Qbh _) ?_
  have hE1:=Ext.trans (Qah W0) hR1
  have hr1:=setRow_heap _ _ _ (numA ra) _ _ kg
  have hA1:=(setRow_other W1 gr w.heap.size (numA ra) (by omega)).trans (Qaa hA hE1)
  have hs1:=(setRow_other W1 gr (w.heap.size+1) (numA ra) (by omega)).trans (Qaa hC hE1)
  have he1:=QaU (Ext.trans he hE1) (show w.heap.size≤gr by omega) (numA ra)
  have hgr:w.heap.size+1<gr:=by omega
  clear kg hR1 hE1 HA hA hC he lg ug sg hsz hlC HE1 HB1 HP1
  generalize W1.setRow gr (numA ra)=V1 at *
  have HA:Hid (∀ W,Ext V1.drew W→W.heap[w.heap.size]? = some (.cells (numA a) 49)):=Lib.hid fun W hR=>Qaa (Qaa hA1 (Qah _)) hR
  have HR:Hid (∀ W,Ext V1.drew W→W.heap[gr]? = some (.cells (numA ra) 49)):=Lib.hid fun W hR=>Qaa (Qaa hr1 (Qah _)) hR
  by_cases hz:s0=a
  · have HQ:Hid (∀ w,Calls Tryd.prog 94 #[num s0,num a] w (Ret w (.bool true))):=Lib.hid (Ql0 s0 a hz i_s0)
    have HM:=HM0
    have FIN:Hid (Qda a=QaT ra∧Qb8 a=true):=Lib.hid ⟨by rw [FN.out,if_pos hz],by rw [FB.out,decide_eq_true hz]; rfl⟩
    clear hz FN FB HM1 HMI HP2 HE2 HB2 HS2
    go_wp2
    refine Qa4 Ext 5 34 [⟨none,[(4,none)]⟩,⟨none,[(4,none)]⟩,⟨none,[(9,some 0),(10,some 1)]⟩,⟨none,[(1,none)]⟩,⟨none,[(11,some 2),(12,some 3)]⟩] kj kj rfl Ext.refl Ext.trans (fun F r0 hr hF=>?_)
    have f4:r0 4=.pointer (some ⟨gr,0,none⟩):=by rw [hr]; rfl
    have f1:r0 1=.pointer (some ⟨w.heap.size,0,none⟩):=by rw [hr]; rfl
    clear hr
    simp only [List.take_succ_cons,List.take_zero]
    refine Qas (num ra) (fun ρ W hR hh=>?_) ?_
    · clear hF
      have h4:ρ 4=.pointer (some ⟨gr,0,none⟩):=Eq.trans hh.1 f4
      exact Qbn (.tmp _) rfl _ _  h4 (HR.out W hR)
    refine Qas (num ra) (fun ρ W hR hh=>?_) ?_
    · clear hF
      have h4:ρ 4=.pointer (some ⟨gr,0,none⟩):=Eq.trans hh.1 f4
      exact Qbn (.tmp _) rfl _ _  h4 (HR.out W hR)
    refine Qas (num s0) (fun ρ W hR hh=>?_) ?_
    · clear hF
      have h9:ρ 9=num ra:=hh.1
      have h10:ρ 10=num ra:=hh.2.1
      simp only [guarded,QaN]
      go_simp
      exact ⟨Ext.refl _,(HM.out _).mono fun _ _ h=>h.const⟩
    refine Qas (num a) (fun ρ W hR hh=>?_) ?_
    · clear hF
      have h1:ρ 1=.pointer (some ⟨w.heap.size,0,none⟩):=Eq.trans hh.1 f1
      exact Qbn (.tmp _) rfl _ _  h1 (HA.out W hR)
    refine Qas (.bool true) (fun ρ W hR hh=>?_) ?_
    · clear hF
      have h11:ρ 11=num s0:=hh.1
      have h12:ρ 12=num a:=hh.2.1
      simp only [guarded,QaN]
      go_simp
      exact ⟨Ext.refl _,(HQ.out _).mono fun _ _ h=>h.const⟩
    simp only [List.cons_append,List.nil_append]
    refine hF.out fun W2 hR2=>?_
    simp only [List.take_succ_cons,List.take_zero,List.drop_succ_cons,List.drop_zero,fin,forall_eq,Act.put,List.setIfInBounds_toArray,List.set_cons_zero,List.set_cons_succ]
    clear hF
    have hr2:=Qaa (Qaa hr1 (Qah _)) hR2
    have hA2:=Qaa (Qaa hA1 (Qah _)) hR2
    have hs2:=Qaa (Qaa hs1 (Qah _)) hR2
    have he2:=Ext.trans (Ext.trans he1 (Qah _)) hR2
    clear HA HR hR2 hr1 hA1 hs1 he1
    have HA:Hid (∀ W,Ext W2.drew W→W.heap[w.heap.size]? = some (.cells (numA a) 49)):=Lib.hid fun W hR=>Qaa (Qaa hA2 (Qah _)) hR
    have HR:Hid (∀ W,Ext W2.drew W→W.heap[gr]? = some (.cells (numA ra) 49)):=Lib.hid fun W hR=>Qaa (Qaa hr2 (Qah _)) hR
    go_wp2
    refine Qa4 Ext 5 34 [⟨none,[(4,none)]⟩,⟨none,[(4,none)]⟩,⟨none,[(21,some 0),(22,some 1)]⟩,⟨none,[(1,none)]⟩,⟨none,[(23,some 2),(24,some 3)]⟩] kj kj rfl Ext.refl Ext.trans (fun F r0 hr hF=>?_)
    have f4:r0 4=.pointer (some ⟨gr,0,none⟩):=by rw [hr]; rfl
    have f1:r0 1=.pointer (some ⟨w.heap.size,0,none⟩):=by rw [hr]; rfl
    clear hr
    simp only [List.take_succ_cons,List.take_zero]
    refine Qas (num ra) (fun ρ W hR hh=>?_) ?_
    · clear hF
      have h4:ρ 4=.pointer (some ⟨gr,0,none⟩):=Eq.trans hh.1 f4
      exact Qbn (.tmp _) rfl _ _  h4 (HR.out W hR)
    refine Qas (num ra) (fun ρ W hR hh=>?_) ?_
    · clear hF
      have h4:ρ 4=.pointer (some ⟨gr,0,none⟩):=Eq.trans hh.1 f4
      exact Qbn (.tmp _) rfl _ _  h4 (HR.out W hR)
    refine Qas (num s0) (fun ρ W hR hh=>?_) ?_
    · clear hF
      have h21:ρ 21=num ra:=hh.1
      have h22:ρ 22=num ra:=hh.2.1
      simp only [guarded,QaN]
      go_simp
      exact ⟨Ext.refl _,(HM.out _).mono fun _ _ h=>h.const⟩
    refine Qas (num a) (fun ρ W hR hh=>?_) ?_
    · clear hF
      have h1:ρ 1=.pointer (some ⟨w.heap.size,0,none⟩):=Eq.trans hh.1 f1
      exact Qbn (.tmp _) rfl _ _  h1 (HA.out W hR)
    refine Qas (.bool true) (fun ρ W hR hh=>?_) ?_
    · clear hF
      have h23:ρ 23=num s0:=hh.1
      have h24:ρ 24=num a:=hh.2.1
      simp only [guarded,QaN]
      go_simp
      exact ⟨Ext.refl _,(HQ.out _).mono fun _ _ h=>h.const⟩
    simp only [List.cons_append,List.nil_append]
    refine hF.out fun W4 hR4=>?_
    simp only [List.take_succ_cons,List.take_zero,List.drop_succ_cons,List.drop_zero,fin,forall_eq,Act.put,List.setIfInBounds_toArray,List.set_cons_zero,List.set_cons_succ]
    clear hF
    have hr4:=Qaa (Qaa hr2 (Qah _)) hR4
    have hA4:=Qaa (Qaa hA2 (Qah _)) hR4
    have hs4:=Qaa (Qaa hs2 (Qah _)) hR4
    have he4:=Ext.trans (Ext.trans he2 (Qah _)) hR4
    clear HA HR hR4 hr2 hA2 hs2 he2
    by_cases ho:ra%2=1
    · have HO:Hid (∀ w,Calls Tryd.prog 51 #[.agg (numA ra)] w (Ret w (.bool true))):=Lib.hid fun w=>by
        have:=odd ra i_ra w
        rw [ho] at this
        exact this
      have HN:Hid (∀ w,Calls Tryd.prog 69 #[.agg #[.int .u64 0,.int .u64 0,.int .u64 0,.int .u64 0],.agg (numA ra)] w (Ret w (.agg (numA (QaT ra))))):=Lib.hid fun w=>by
        have:=sub 0 ra QdQ i_ra w
        rw [show (0-ra)%p=QaT ra by unfold QaT; rw [if_pos ho]] at this
        exact this
      generalize hev:QaT ra=ev at *
      clear ho
      go_wp2_with first
        | (go_at_call 51
           (with_reducible refine (HO.out _).mono ?_)
           rintro e w6 ⟨rfl,hw6⟩
           clear HO
           have hr6:=Qaa hr4 hw6
           have hs6:=Qaa hs4 hw6
           have he6:=Ext.trans he4 hw6
           clear hr4 hs4 he4 hw6)
        | (go_at_call 69
           (with_reducible refine (HN.out _).mono ?_)
           rintro e w7 ⟨rfl,hw7⟩
           clear HN
           have hr7:=Qaa hr6 hw7
           have hs7:=Qaa hs6 hw7
           have he7:=Ext.trans he6 hw7
           clear hr6 hs6 he6 hw7)
        | (with_reducible show wpList _ _ _ ((⟨_,.load 49 _,_,_,_,_⟩:Oper)::_) _ _
           refine wpList_load_row rfl 49 _ rfl gr rfl 49 _ (0,0) _ hr4 Tryd.underlying49 rfl QaC ?_)
        | (with_reducible show wpList _ _ _ ((⟨_,.load 49 _,_,_,_,_⟩:Oper)::_) _ _
           refine wpList_load_row rfl 49 _ rfl gr rfl 49 _ (0,0) _ hr6 Tryd.underlying49 rfl QaC ?_)
        | (with_reducible show wpList _ _ _ ((⟨_,.load 49 _,_,_,_,_⟩:Oper)::_) _ _
           refine wpList_load_row rfl 49 _ rfl gr rfl 49 _ (0,0) _ hr8 Tryd.underlying49 rfl QaC ?_)
        | (with_reducible show wpList _ _ _ ((⟨_,.store 49 _ _,_,_,_,_⟩:Oper)::_) _ _
           refine wpList_store_row rfl 49 _ _ rfl gr (numA ev) rfl rfl 49 _ hr7 QaC rfl (Qbh _) ?_
           have hr8:=setRow_heap _ _ _ (numA ev) _ _ hr7
           have hs8:=(setRow_other w7 gr (w.heap.size+1) (numA ev) (by omega)).trans hs7
           have he8:=QaU he7 (show w.heap.size≤gr by omega) (numA ev)
           clear hr7)
        | (with_reducible show wpList _ _ _ ((⟨_,.store 49 _ _,_,_,_,_⟩:Oper)::_) _ _
           refine wpList_store_row rfl 49 _ _ rfl (w.heap.size+1) (numA ev) rfl rfl 49 _ hs8 QaC hbs (Qbh _) ?_)
      exact bodyPost_ret (Qb1 rfl _ _ (w.heap.size+1) 49 _ (0,0) _ rfl _ rfl (setRow_heap _ _ _ _ _ _ hs8) Tryd.underlying49 rfl QaC) rfl ⟨by rw [FIN.out.1,FIN.out.2]; rfl,QaU he8 (by omega) _⟩
    · have HO:Hid (∀ w,Calls Tryd.prog 51 #[.agg (numA ra)] w (Ret w (.bool false))):=Lib.hid fun w=>by
        have:=odd ra i_ra w
        rw [show (ra%2==1)=false by simpa using ho] at this
        exact this
      have hev:QaT ra=ra:=by unfold QaT; rw [if_neg ho]
      clear ho
      have HEV:=Lib.hid hev
      clear hev
      go_wp2_with first
        | (go_at_call 51
           (with_reducible refine (HO.out _).mono ?_)
           rintro e w6 ⟨rfl,hw6⟩
           clear HO
           have hr6:=Qaa hr4 hw6
           have hs6:=Qaa hs4 hw6
           have he6:=Ext.trans he4 hw6
           clear hr4 hs4 he4 hw6)
        | (with_reducible show wpList _ _ _ ((⟨_,.load 49 _,_,_,_,_⟩:Oper)::_) _ _
           refine wpList_load_row rfl 49 _ rfl gr rfl 49 _ (0,0) _ hr4 Tryd.underlying49 rfl QaC ?_)
        | (with_reducible show wpList _ _ _ ((⟨_,.load 49 _,_,_,_,_⟩:Oper)::_) _ _
           refine wpList_load_row rfl 49 _ rfl gr rfl 49 _ (0,0) _ hr6 Tryd.underlying49 rfl QaC ?_)
        | (with_reducible show wpList _ _ _ ((⟨_,.store 49 _ _,_,_,_,_⟩:Oper)::_) _ _
           refine wpList_store_row rfl 49 _ _ rfl (w.heap.size+1) (numA ra) rfl rfl 49 _ hs6 QaC hbs (Qbh _) ?_)
      exact bodyPost_ret (Qb1 rfl _ _ (w.heap.size+1) 49 _ (0,0) _ rfl _ rfl (setRow_heap _ _ _ _ _ _ hs6) Tryd.underlying49 rfl QaC) rfl ⟨by rw [FIN.out.1,FIN.out.2,HEV.out]; rfl,QaU he6 (by omega) _⟩
  · have HQ0:Hid (∀ w,Calls Tryd.prog 94 #[num s0,num a] w (Ret w (.bool false))):=Lib.hid (QhM s0 a hz i_s0 ha)
    have HZ:=Lib.hid hz
    clear hz
    have HQ:=HQ0
    have HM:=HM0
    go_wp2
    refine Qa4 Ext 5 34 [⟨none,[(4,none)]⟩,⟨none,[(4,none)]⟩,⟨none,[(9,some 0),(10,some 1)]⟩,⟨none,[(1,none)]⟩,⟨none,[(11,some 2),(12,some 3)]⟩] kj kj rfl Ext.refl Ext.trans (fun F r0 hr hF=>?_)
    have f4:r0 4=.pointer (some ⟨gr,0,none⟩):=by rw [hr]; rfl
    have f1:r0 1=.pointer (some ⟨w.heap.size,0,none⟩):=by rw [hr]; rfl
    clear hr
    simp only [List.take_succ_cons,List.take_zero]
    refine Qas (num ra) (fun ρ W hR hh=>?_) ?_
    · clear hF
      have h4:ρ 4=.pointer (some ⟨gr,0,none⟩):=Eq.trans hh.1 f4
      exact Qbn (.tmp _) rfl _ _  h4 (HR.out W hR)
    refine Qas (num ra) (fun ρ W hR hh=>?_) ?_
    · clear hF
      have h4:ρ 4=.pointer (some ⟨gr,0,none⟩):=Eq.trans hh.1 f4
      exact Qbn (.tmp _) rfl _ _  h4 (HR.out W hR)
    refine Qas (num s0) (fun ρ W hR hh=>?_) ?_
    · clear hF
      have h9:ρ 9=num ra:=hh.1
      have h10:ρ 10=num ra:=hh.2.1
      simp only [guarded,QaN]
      go_simp
      exact ⟨Ext.refl _,(HM.out _).mono fun _ _ h=>h.const⟩
    refine Qas (num a) (fun ρ W hR hh=>?_) ?_
    · clear hF
      have h1:ρ 1=.pointer (some ⟨w.heap.size,0,none⟩):=Eq.trans hh.1 f1
      exact Qbn (.tmp _) rfl _ _  h1 (HA.out W hR)
    refine Qas (.bool false) (fun ρ W hR hh=>?_) ?_
    · clear hF
      have h11:ρ 11=num s0:=hh.1
      have h12:ρ 12=num a:=hh.2.1
      simp only [guarded,QaN]
      go_simp
      exact ⟨Ext.refl _,(HQ.out _).mono fun _ _ h=>h.const⟩
    simp only [List.cons_append,List.nil_append]
    refine hF.out fun W2 hR2=>?_
    simp only [List.take_succ_cons,List.take_zero,List.drop_succ_cons,List.drop_zero,fin,forall_eq,Act.put,List.setIfInBounds_toArray,List.set_cons_zero,List.set_cons_succ]
    clear hF
    have hr2:=Qaa (Qaa hr1 (Qah _)) hR2
    have hA2:=Qaa (Qaa hA1 (Qah _)) hR2
    have hs2:=Qaa (Qaa hs1 (Qah _)) hR2
    have he2:=Ext.trans (Ext.trans he1 (Qah _)) hR2
    clear HA HR hR2 hr1 hA1 hs1 he1
    clear HQ HM HQ0 HM0
    go_wp2
    have HR:Hid (∀ W,Ext W2.drew W→W.heap[gr]? = some (.cells (numA ra) 49)):=Lib.hid fun W hR=>Qaa (Qaa hr2 (Qah _)) hR
    refine Qa4 Ext 6 34 [⟨none,[(4,none)]⟩,⟨none,[]⟩,⟨none,[]⟩,⟨none,[(17,some 2)]⟩,⟨none,[(16,some 1),(18,some 3)]⟩,⟨none,[(15,some 0),(19,some 4)]⟩] kj kj rfl Ext.refl Ext.trans (fun F r0 hr hF=>?_)
    have f4:r0 4=.pointer (some ⟨gr,0,none⟩):=by rw [hr]; rfl
    clear hr
    simp only [List.take_succ_cons,List.take_zero]
    refine Qas (num ra) (fun ρ W hR hh=>?_) ?_
    · clear hF
      exact Qbn (.tmp _) rfl _ _ (Eq.trans hh.1 f4) (HR.out W hR)
    refine Qas (num 2) (fun ρ W hR hh=>?_) ?_
    · clear hF
      simp only [guarded,QaN]
      go_simp
      exact ⟨Ext.refl _,(HS2.out _).mono fun _ _ h=>h.const⟩
    refine Qas (.agg (ints .u8 x2)) (fun ρ W hR hh=>?_) ?_
    · clear hF
      simp only [guarded,QaN]
      go_simp
      exact ⟨Ext.refl _,(HE2.out _).mono fun _ _ h=>h.const⟩
    refine QdV (Qem x2) (Qdn x2) (fun ρ W hR hh=>?_) ?_
    · clear hF
      have h17:ρ 17=.agg (ints .u8 x2):=hh.1
      simp only [guarded,QaN]
      go_simp
      exact ⟨Ext.refl _,(HB2.out _).mono fun _ _ h=>h.fact⟩
    refine Qas (num ri) (fun ρ W hR hh=>?_) ?_
    · clear hF
      have h16:ρ 16=num 2:=hh.1
      have h18:Qem x2 (ρ 18) W:=hh.2.1
      simp only [guarded,QaN]
      go_simp
      exact ⟨Ext.refl _,(HP2.out _ _ h18).mono fun _ _ h=>h.const⟩
    refine Qas (num rb) (fun ρ W hR hh=>?_) ?_
    · clear hF
      have h15:ρ 15=num ra:=hh.1
      have h19:ρ 19=num ri:=hh.2.1
      simp only [guarded,QaN]
      go_simp
      exact ⟨Ext.refl _,(HMI.out _).mono fun _ _ h=>h.const⟩
    simp only [List.cons_append,List.nil_append]
    refine hF.out fun W3 hR3=>?_
    simp only [List.take_succ_cons,List.take_zero,List.drop_succ_cons,List.drop_zero,fin,forall_eq,Act.put,List.setIfInBounds_toArray,List.set_cons_zero,List.set_cons_succ]
    intro vb hvb
    clear hF f4 hvb
    have hr3:=Qaa (Qaa hr2 (Qah _)) hR3
    refine wpList_store_row rfl 49 _ _ rfl gr (numA rb) rfl rfl 49 _ hr3 QaC rfl (Qbh _) ?_
    have hr5:=setRow_heap _ _ _ (numA rb) _ _ hr3
    have hA5:=(setRow_other W3 gr w.heap.size (numA rb) (by omega)).trans (Qaa (Qaa hA2 (Qah _)) hR3)
    have hs5:=(setRow_other W3 gr (w.heap.size+1) (numA rb) (by omega)).trans (Qaa (Qaa hs2 (Qah _)) hR3)
    have he5:=QaU (Ext.trans (Ext.trans he2 (Qah _)) hR3) (show w.heap.size≤gr by omega) (numA rb)
    clear hr3 hr2 hA2 hs2 he2 hR3 HR HS2 HE2 HB2 HP2 HMI
    generalize W3.setRow gr (numA rb)=V5 at *
    have HA:Hid (∀ W,Ext V5.drew W→W.heap[w.heap.size]? = some (.cells (numA a) 49)):=Lib.hid fun W hR=>Qaa (Qaa hA5 (Qah _)) hR
    have HR:Hid (∀ W,Ext V5.drew W→W.heap[gr]? = some (.cells (numA rb) 49)):=Lib.hid fun W hR=>Qaa (Qaa hr5 (Qah _)) hR
    have HM:=HM1
    by_cases hz:s1=a
    · have HQ:Hid (∀ w,Calls Tryd.prog 94 #[num s1,num a] w (Ret w (.bool true))):=Lib.hid (Ql0 s1 a hz i_s1)
      have FIN:Hid (Qda a=QaT rb∧Qb8 a=true):=Lib.hid ⟨by rw [FN.out,if_neg HZ.out,if_pos hz],by rw [FB.out,decide_eq_true hz,Bool.or_true]⟩
      clear hz FN FB HZ
      go_wp2
      refine Qa4 Ext 5 34 [⟨none,[(4,none)]⟩,⟨none,[(4,none)]⟩,⟨none,[(21,some 0),(22,some 1)]⟩,⟨none,[(1,none)]⟩,⟨none,[(23,some 2),(24,some 3)]⟩] kj kj rfl Ext.refl Ext.trans (fun F r0 hr hF=>?_)
      have f4:r0 4=.pointer (some ⟨gr,0,none⟩):=by rw [hr]; rfl
      have f1:r0 1=.pointer (some ⟨w.heap.size,0,none⟩):=by rw [hr]; rfl
      clear hr
      simp only [List.take_succ_cons,List.take_zero]
      refine Qas (num rb) (fun ρ W hR hh=>?_) ?_
      · clear hF
        have h4:ρ 4=.pointer (some ⟨gr,0,none⟩):=Eq.trans hh.1 f4
        exact Qbn (.tmp _) rfl _ _  h4 (HR.out W hR)
      refine Qas (num rb) (fun ρ W hR hh=>?_) ?_
      · clear hF
        have h4:ρ 4=.pointer (some ⟨gr,0,none⟩):=Eq.trans hh.1 f4
        exact Qbn (.tmp _) rfl _ _  h4 (HR.out W hR)
      refine Qas (num s1) (fun ρ W hR hh=>?_) ?_
      · clear hF
        have h21:ρ 21=num rb:=hh.1
        have h22:ρ 22=num rb:=hh.2.1
        simp only [guarded,QaN]
        go_simp
        exact ⟨Ext.refl _,(HM.out _).mono fun _ _ h=>h.const⟩
      refine Qas (num a) (fun ρ W hR hh=>?_) ?_
      · clear hF
        have h1:ρ 1=.pointer (some ⟨w.heap.size,0,none⟩):=Eq.trans hh.1 f1
        exact Qbn (.tmp _) rfl _ _  h1 (HA.out W hR)
      refine Qas (.bool true) (fun ρ W hR hh=>?_) ?_
      · clear hF
        have h23:ρ 23=num s1:=hh.1
        have h24:ρ 24=num a:=hh.2.1
        simp only [guarded,QaN]
        go_simp
        exact ⟨Ext.refl _,(HQ.out _).mono fun _ _ h=>h.const⟩
      simp only [List.cons_append,List.nil_append]
      refine hF.out fun W4 hR4=>?_
      simp only [List.take_succ_cons,List.take_zero,List.drop_succ_cons,List.drop_zero,fin,forall_eq,Act.put,List.setIfInBounds_toArray,List.set_cons_zero,List.set_cons_succ]
      clear hF
      have hr4:=Qaa (Qaa hr5 (Qah _)) hR4
      have hA4:=Qaa (Qaa hA5 (Qah _)) hR4
      have hs4:=Qaa (Qaa hs5 (Qah _)) hR4
      have he4:=Ext.trans (Ext.trans he5 (Qah _)) hR4
      clear HA HR hR4 hr5 hA5 hs5 he5
      by_cases ho:rb%2=1
      · have HO:Hid (∀ w,Calls Tryd.prog 51 #[.agg (numA rb)] w (Ret w (.bool true))):=Lib.hid fun w=>by
          have:=odd rb i_rb w
          rw [ho] at this
          exact this
        have HN:Hid (∀ w,Calls Tryd.prog 69 #[.agg #[.int .u64 0,.int .u64 0,.int .u64 0,.int .u64 0],.agg (numA rb)] w (Ret w (.agg (numA (QaT rb))))):=Lib.hid fun w=>by
          have:=sub 0 rb QdQ i_rb w
          rw [show (0-rb)%p=QaT rb by unfold QaT; rw [if_pos ho]] at this
          exact this
        generalize hev:QaT rb=ev at *
        clear ho
        go_wp2_with first
          | (go_at_call 51
             (with_reducible refine (HO.out _).mono ?_)
             rintro e w6 ⟨rfl,hw6⟩
             clear HO
             have hr6:=Qaa hr4 hw6
             have hs6:=Qaa hs4 hw6
             have he6:=Ext.trans he4 hw6
             clear hr4 hs4 he4 hw6)
          | (go_at_call 69
             (with_reducible refine (HN.out _).mono ?_)
             rintro e w7 ⟨rfl,hw7⟩
             clear HN
             have hr7:=Qaa hr6 hw7
             have hs7:=Qaa hs6 hw7
             have he7:=Ext.trans he6 hw7
             clear hr6 hs6 he6 hw7)
          | (with_reducible show wpList _ _ _ ((⟨_,.load 49 _,_,_,_,_⟩:Oper)::_) _ _
             refine wpList_load_row rfl 49 _ rfl gr rfl 49 _ (0,0) _ hr4 Tryd.underlying49 rfl QaC ?_)
          | (with_reducible show wpList _ _ _ ((⟨_,.load 49 _,_,_,_,_⟩:Oper)::_) _ _
             refine wpList_load_row rfl 49 _ rfl gr rfl 49 _ (0,0) _ hr6 Tryd.underlying49 rfl QaC ?_)
          | (with_reducible show wpList _ _ _ ((⟨_,.load 49 _,_,_,_,_⟩:Oper)::_) _ _
             refine wpList_load_row rfl 49 _ rfl gr rfl 49 _ (0,0) _ hr8 Tryd.underlying49 rfl QaC ?_)
          | (with_reducible show wpList _ _ _ ((⟨_,.store 49 _ _,_,_,_,_⟩:Oper)::_) _ _
             refine wpList_store_row rfl 49 _ _ rfl gr (numA ev) rfl rfl 49 _ hr7 QaC rfl (Qbh _) ?_
             have hr8:=setRow_heap _ _ _ (numA ev) _ _ hr7
             have hs8:=(setRow_other w7 gr (w.heap.size+1) (numA ev) (by omega)).trans hs7
             have he8:=QaU he7 (show w.heap.size≤gr by omega) (numA ev)
             clear hr7)
          | (with_reducible show wpList _ _ _ ((⟨_,.store 49 _ _,_,_,_,_⟩:Oper)::_) _ _
             refine wpList_store_row rfl 49 _ _ rfl (w.heap.size+1) (numA ev) rfl rfl 49 _ hs8 QaC hbs (Qbh _) ?_)
        exact bodyPost_ret (Qb1 rfl _ _ (w.heap.size+1) 49 _ (0,0) _ rfl _ rfl (setRow_heap _ _ _ _ _ _ hs8) Tryd.underlying49 rfl QaC) rfl ⟨by rw [FIN.out.1,FIN.out.2]; rfl,QaU he8 (by omega) _⟩
      · have HO:Hid (∀ w,Calls Tryd.prog 51 #[.agg (numA rb)] w (Ret w (.bool false))):=Lib.hid fun w=>by
          have:=odd rb i_rb w
          rw [show (rb%2==1)=false by simpa using ho] at this
          exact this
        have hev:QaT rb=rb:=by unfold QaT; rw [if_neg ho]
        clear ho
        have HEV:=Lib.hid hev
        clear hev
        go_wp2_with first
          | (go_at_call 51
             (with_reducible refine (HO.out _).mono ?_)
             rintro e w6 ⟨rfl,hw6⟩
             clear HO
             have hr6:=Qaa hr4 hw6
             have hs6:=Qaa hs4 hw6
             have he6:=Ext.trans he4 hw6
             clear hr4 hs4 he4 hw6)
          | (with_reducible show wpList _ _ _ ((⟨_,.load 49 _,_,_,_,_⟩:Oper)::_) _ _
             refine wpList_load_row rfl 49 _ rfl gr rfl 49 _ (0,0) _ hr4 Tryd.underlying49 rfl QaC ?_)
          | (with_reducible show wpList _ _ _ ((⟨_,.load 49 _,_,_,_,_⟩:Oper)::_) _ _
             refine wpList_load_row rfl 49 _ rfl gr rfl 49 _ (0,0) _ hr6 Tryd.underlying49 rfl QaC ?_)
          | (with_reducible show wpList _ _ _ ((⟨_,.store 49 _ _,_,_,_,_⟩:Oper)::_) _ _
             refine wpList_store_row rfl 49 _ _ rfl (w.heap.size+1) (numA rb) rfl rfl 49 _ hs6 QaC hbs (Qbh _) ?_)
        exact bodyPost_ret (Qb1 rfl _ _ (w.heap.size+1) 49 _ (0,0) _ rfl _ rfl (setRow_heap _ _ _ _ _ _ hs6) Tryd.underlying49 rfl QaC) rfl ⟨by rw [FIN.out.1,FIN.out.2,HEV.out]; rfl,QaU he6 (by omega) _⟩
    · have HQ:Hid (∀ w,Calls Tryd.prog 94 #[num s1,num a] w (Ret w (.bool false))):=Lib.hid (QhM s1 a hz i_s1 ha)
      have FIN:Hid (Qda a=0∧Qb8 a=false):=Lib.hid ⟨by rw [FN.out,if_neg HZ.out,if_neg hz],by rw [FB.out,decide_eq_false HZ.out,decide_eq_false hz]; rfl⟩
      clear hz FN FB HZ
      go_wp2
      refine Qa4 Ext 5 34 [⟨none,[(4,none)]⟩,⟨none,[(4,none)]⟩,⟨none,[(21,some 0),(22,some 1)]⟩,⟨none,[(1,none)]⟩,⟨none,[(23,some 2),(24,some 3)]⟩] kj kj rfl Ext.refl Ext.trans (fun F r0 hr hF=>?_)
      have f4:r0 4=.pointer (some ⟨gr,0,none⟩):=by rw [hr]; rfl
      have f1:r0 1=.pointer (some ⟨w.heap.size,0,none⟩):=by rw [hr]; rfl
      clear hr
      simp only [List.take_succ_cons,List.take_zero]
      refine Qas (num rb) (fun ρ W hR hh=>?_) ?_
      · clear hF
        have h4:ρ 4=.pointer (some ⟨gr,0,none⟩):=Eq.trans hh.1 f4
        exact Qbn (.tmp _) rfl _ _  h4 (HR.out W hR)
      refine Qas (num rb) (fun ρ W hR hh=>?_) ?_
      · clear hF
        have h4:ρ 4=.pointer (some ⟨gr,0,none⟩):=Eq.trans hh.1 f4
        exact Qbn (.tmp _) rfl _ _  h4 (HR.out W hR)
      refine Qas (num s1) (fun ρ W hR hh=>?_) ?_
      · clear hF
        have h21:ρ 21=num rb:=hh.1
        have h22:ρ 22=num rb:=hh.2.1
        simp only [guarded,QaN]
        go_simp
        exact ⟨Ext.refl _,(HM.out _).mono fun _ _ h=>h.const⟩
      refine Qas (num a) (fun ρ W hR hh=>?_) ?_
      · clear hF
        have h1:ρ 1=.pointer (some ⟨w.heap.size,0,none⟩):=Eq.trans hh.1 f1
        exact Qbn (.tmp _) rfl _ _  h1 (HA.out W hR)
      refine Qas (.bool false) (fun ρ W hR hh=>?_) ?_
      · clear hF
        have h23:ρ 23=num s1:=hh.1
        have h24:ρ 24=num a:=hh.2.1
        simp only [guarded,QaN]
        go_simp
        exact ⟨Ext.refl _,(HQ.out _).mono fun _ _ h=>h.const⟩
      simp only [List.cons_append,List.nil_append]
      refine hF.out fun W4 hR4=>?_
      simp only [List.take_succ_cons,List.take_zero,List.drop_succ_cons,List.drop_zero,fin,forall_eq,Act.put,List.setIfInBounds_toArray,List.set_cons_zero,List.set_cons_succ]
      clear hF
      have hr4:=Qaa (Qaa hr5 (Qah _)) hR4
      have hA4:=Qaa (Qaa hA5 (Qah _)) hR4
      have hs4:=Qaa (Qaa hs5 (Qah _)) hR4
      have he4:=Ext.trans (Ext.trans he5 (Qah _)) hR4
      clear HA HR hR4 hr5 hA5 hs5 he5
      go_wp2_with first
        | (with_reducible show wpList _ _ _ ((⟨_,.store 49 _ _,_,_,_,_⟩:Oper)::_) _ _
           refine wpList_store_row rfl 49 _ _ rfl (w.heap.size+1) (numA 0) rfl rfl 49 _ hs4 QaC hbs (Qbh _) ?_)
      exact bodyPost_ret (Qb1 rfl _ _ (w.heap.size+1) 49 _ (0,0) _ rfl _ rfl (setRow_heap _ _ _ _ _ _ hs4) Tryd.underlying49 rfl QaC) rfl ⟨by rw [FIN.out.1,FIN.out.2]; rfl,QaU he4 (by omega) _⟩
end Go.Proofs.YtdoadngmgmdlbaaDoor.Field
end
section
namespace Go.Proofs.YtdoadngmgmdlbaaDoor.Field
open Go Go.RowKit
open Rely
end Go.Proofs.YtdoadngmgmdlbaaDoor.Field
end
section
namespace Go.Proofs.YtdoadngmgmdlbaaDoor.Field
open Go Go.RowKit
open Rely
end Go.Proofs.YtdoadngmgmdlbaaDoor.Field
end
section
namespace Go.Proofs.YtdoadngmgmdlbaaDoor.Field
open Go Go.RowKit Go.Shelf
open Rely
attribute [local go_sem] Oper.semAt_some
def encB (b : Bool):Value:=.int .i64 (if b then 1 else 0)
def bitB (es : List Int) (i:Nat):Bool:=Qdb es i==1
def QaH (es : List Int):List Bool:=(List.range 256).map fun j=>bitB es (255-j)
theorem Qib (es : List Int) (i:Nat):encB (bitB es i)=.int .i64 (Qdb es i):=by
  unfold encB bitB
  have:=Qhz es i
  by_cases h:Qdb es i=1
  · simp [h]
  · have h0:Qdb es i=0:=by omega
    simp [h0]
theorem Qfk (es : List Int):(QaH es).length=256:=by simp [QaH]
theorem Qf1 (es : List Int) (j:Nat) (hj:j<256):(QaH es).take (256-j)=(QaH es).take (256-(j+1))++[bitB es j]:=by
  have e:256-j=(256-(j+1))+1:=by omega
  rw [e,List.take_add_one]
  congr 1
  have h:256-(j+1)<256:=by omega
  simp only [QaH,List.getElem?_map,List.getElem?_range h,Option.map_some,Option.toList_some]
  rw [show 255-(256-(j+1))=j by omega]
set_option maxHeartbeats 2000000 in
theorem Qe5 (m : Nat) (hm:1≤m) (kb:Nat) (es:List Int) (hel:es.length=32) (hb:Qak es) (w:World) (hkb:w.heap[kb]? = some (.cells (ints .u8 es) 23)) :
    SeqStopsK Fence.wide m Tryd.prog 82 #[.pointer (some ⟨kb,0,none⟩)] (fun x:Bool=>#[encB x]) (Same kb) (fun ys=>ys=QaH es) (fun pre=>pre <+: QaH es) 256 w:=fun l J Jx W hW hJ hJx hY h0=>by
  refine callsIn_of_wp Tryd.func82 rfl trivial ?_ rfl
  simp only [Tryd.ntmps82,List.size_toArray,List.length_cons,List.length_nil,Nat.reduceAdd,Nat.reduceSub,Array.replicate_succ,Array.replicate_zero,List.push_toArray,List.append_toArray,List.nil_append,List.cons_append]
  have hkW:W.heap[kb]? = some (.cells (ints .u8 es) 23):=(hW.block kb (Qa6 hkb)).trans hkb
  gi_wp2
  gi_loopw [3] (fun i wr=>∃ k:Nat,k≤256∧i=.int .i64 ((k:Int)-1)∧J ((QaH es).take (256-k)) wr∧Same kb W wr) (fun i _=>(intOf i+1).toNat)
  case atStart=>exact ⟨256,by omega,rfl,by simpa using h0,Same.refl _ _⟩
  case round =>
    obtain ⟨k,hk256,rfl,hJs,hB⟩:=hrel
    rcases k with _ | j
    · gi_wp2
      go_end0
      exact ⟨⟨_,rfl⟩,.inl ⟨_,rfl,by rwa [List.take_of_length_le (by rw [Qfk]; omega)] at hJs⟩⟩
    · have hj:j<256:=by omega
      rw [show ((j+1:Nat):Int)-1=(j:Int) by omega]
      have hkw:wr.heap[kb]? = some (.cells (ints .u8 es) 23):=hB.trans hkW
      have hX:(ints .u8 es)[j/8]? = some (.int .u8 (nth es (j/8))):=Qaw _ _ _ (by omega)
      have hcx:=QaE hkw hX
      obtain ⟨fn,tmps,assign,body,hy,hR⟩:=hY _ (bitB es j) wr hJs (by rw [List.length_take,Qfk]; omega)
      have hT:=Lib.hid (Qf1 es j hj)
      have b1:=hb.nth (j/8)
      rw [Qib,show Qdb es j=nth es (j/8)/2^(j%8)%2 from rfl] at hy
      generalize bitB es j=bt at *
      generalize nth es (j/8)=v at *
      have q0:(0:Int)≤(j:Int):=by omega
      have q1:(j:Int)/8<32:=by omega
      have q2:IntKind.i64.wrap ((j:Int)/8)=(j:Int)/8:=IntWalk.i64_in _ (by omega)
      have qm:(j:Int).tmod 8=(j:Int)%8:=Int.tmod_eq_emod_of_nonneg (by omega)
      have q3:IntKind.i64.wrap ((j:Int)%8)=(j:Int)%8:=IntWalk.i64_in _ (by omega)
      have q4:(0:Int)≤(j:Int)/8:=by omega
      have q5:((j:Int)/8).toNat=j/8:=by omega
      have q6:((j:Int)%8).toNat=j%8:=by omega
      have q7:(0:Int)≤(j:Int)%8:=by omega
      have q8:(j:Int)%8<8:=by omega
      have hp:(1:Int)≤2^(j%8):=by
        have:(0:Int)<2^(j%8):=Int.pow_pos (by decide)
        omega
      have d1:0≤v/2^(j%8):=Int.ediv_nonneg b1.1 (by omega)
      have d2:v/2^(j%8)≤v:=Int.ediv_le_self _ b1.1
      have w1:IntKind.i64.wrap (v/2^(j%8))=v/2^(j%8):=IntWalk.i64_in _ (by omega)
      have w2:=Qh4 (v/2^(j%8)) (by omega)
      gi_wp2
      refine hR.mono ?_
      rintro e W3 (⟨rfl,hJ3,hk3⟩ | ⟨rfl,hJx3⟩)
      · gi_wp2
        go_roundw
        case rel=>exact ⟨j,by omega,rfl,by rw [hT.out]; exact hJ3,hk3.trans hB⟩
        case measure=>simp [intOf]
      · gi_wp2
        refine bodyPost_ret (results_none rfl _ _ _) rfl ?_
        exact ⟨⟨_,rfl⟩,.inr ⟨_,by rw [←hT.out]; exact List.take_prefix _ _,hJx3⟩⟩
end Go.Proofs.YtdoadngmgmdlbaaDoor.Field
end
end
section
namespace Go.Proofs.YtdoadngmgmdlbaaDoor.Field
open Go Go.RowKit
open Rely Auto
theorem Qb7 (n : Nat) (h:n<1000000:=by decide):isN (n:Int):=by unfold isN p; omega
theorem zlen : (List.replicate 32 (0:Int)).length=32:=by decide
theorem Qdf (n : Int) (h:0≤n∧n<1000000) (w:World):Calls Tryd.prog 67 #[.int .i64 n] w (Ret w (num n)):=by
  have:=QeK n (by omega) w
  rw [show n%p=n from Int.emod_eq_of_lt h.1 (by unfold p; omega)] at this
  exact this
end Go.Proofs.YtdoadngmgmdlbaaDoor.Field
end
section
namespace Go.Proofs.YtdoadngmgmdlbaaDoor.Field
open Go Go.RowKit
open Rely Auto
theorem laidVars_at {P : Program} {w:World}:∀ (laid:List (String×DataW Unit)) (ps:List MemPlace) (n:String) (d:DataW Unit),DataW.LaidVars P w laid ps→(n,d)∈laid →
    ∃ g t cs fuel p,P.globalNamed n=some g∧(P.globals[g]?).map (·.type)=some t∧w.var? P n=some cs∧DataW.trod (fun _=>()) P w 0 (fun _=>true) false fuel t cs.toList=some (d,p)∧∀ x∈MemPlace.row ⟨g,0,none⟩ cs.size,x∈ps
  | [],_,_,_,_,h=>by cases h
  | (n0,d0)::r,ps,n,d,⟨g,t,cs,fuel,p,q,h1,h2,h3,h4,h5,h6⟩,h=>by
    subst h6
    rcases List.mem_cons.1 h with h | h
    · cases h
      exact ⟨g,t,cs,fuel,p,h1,h2,h3,h4,fun x hx=>List.mem_append_left _ (List.mem_append_left _ hx)⟩
    · obtain ⟨g',t',cs',fuel',p',a,b,c,e,f⟩:=laidVars_at r q n d h5 h
      exact ⟨g',t',cs',fuel',p',a,b,c,e,fun x hx=>List.mem_append_right _ (f x hx)⟩
theorem laid_row {P : Program} {w:World} {laid:List (String×DataW Unit)} {n:String} {k:IntKind} {zs:List Int} {g:Nat} {t e:TypeId} {m:Nat} (h:laidMet P laid w) (hm:(n,Lib.tabData k zs)∈laid)
    (hg:P.globalNamed n=some g) (hty:(P.globals[g]?).map (·.type)=some t) (ht:P.underlying t=some (.array m e)) (he:P.underlying e=some (.int k)) (hce:P.cellsOf e=1) (hct:P.cellsOf t=m) (h0:0<zs.length) :
    ∃ t,w.heap[g]? = some (.cells (ints k zs) t):=by
  obtain ⟨ps,hL,-,hC⟩:=h
  obtain ⟨g',t',cs,fuel,p,hg',ht',hvar,hd,hin⟩:=laidVars_at _ _ _ _ hL hm
  obtain rfl:=Option.some.inj (hg.symm.trans hg')
  obtain rfl:=Option.some.inj (hty.symm.trans ht')
  have hcs:=Lib.cells_of_tab ht he hce hct hd
  have hsz:0<cs.size:=by rw [←Array.length_toList,hcs,List.length_map]; exact h0
  obtain ⟨⟨c,t2,hc⟩,-⟩:=hC g 0 (hin _ (List.mem_map.2 ⟨0,List.mem_range.2 hsz,rfl⟩))
  unfold World.var? at hvar
  rw [hg] at hvar
  simp only [Option.bind_some,hc,Option.some.injEq] at hvar
  subst hvar
  refine ⟨t2,hc.trans ?_⟩
  rw [show c=ints k zs from by rw [ints,←hcs]]
def Qbq : List Int:=[163,120,89,19,202,77,235,117,171,216,65,65,77,10,112,0,152,232,121,119,121,64,199,140,115,254,111,43,238,108,3,82]
def QbS : List Int:=[26,213,37,143,96,45,86,201,178,167,37,149,96,199,44,105,92,220,214,253,49,226,164,192,254,83,110,205,211,54,105,33]
def QbR : List Int:=[88,102,102,102,102,102,102,102,102,102,102,102,102,102,102,102,102,102,102,102,102,102,102,102,102,102,102,102,102,102,102,102]
def dN : Int:=37095705934669439343138083508754565189542113879843219016388785533085940283555
def bxN : Int:=15112221349535400772501151409588531511454012693041857206046113283949847762202
def byN : Int:=46316835694926478169428394003475163141307993866256225615783033603165251855960
theorem Qe4 : isN dN:=by unfold isN; decide
theorem QjS : isN bxN:=by unfold isN; decide
theorem QjR : isN byN:=by unfold isN; decide
theorem Qog : QeX Qbq=dN:=by decide +kernel
theorem Qn9 : QeX QbS=bxN:=by decide +kernel
theorem Qn8 : QeX QbR=byN:=by decide +kernel
theorem QiF : Qak Qbq:=by unfold Qak; decide
theorem Qh1 : Qak QbS:=by unfold Qak; decide
theorem Qh0 : Qak QbR:=by unfold Qak; decide
theorem QeZ (w : World):Calls Tryd.prog 44 #[.agg (ints .u8 Qbq)] w (Ret w (num dN)):=by rw [←Qog]; exact QkU Qbq rfl QiF w
theorem QmA (w : World):Calls Tryd.prog 44 #[.agg (ints .u8 QbS)] w (Ret w (num bxN)):=by rw [←Qn9]; exact QkU QbS rfl Qh1 w
theorem Qm9 (w : World):Calls Tryd.prog 44 #[.agg (ints .u8 QbR)] w (Ret w (num byN)):=by rw [←Qn8]; exact QkU QbR rfl Qh0 w
end Go.Proofs.YtdoadngmgmdlbaaDoor.Field
end
section
namespace Go.Proofs.YtdoadngmgmdlbaaDoor.Field
open Go Go.RowKit
open Rely Auto
theorem run_index_il {P : Program} {ρ:Operand→Value} {o:Oper} {w:World} (t:TypeId) (x y:Operand) (ki k:IntKind) (xs:List Int) (i n:Nat) (e:TypeId) (v:Int) (ho:o.op=.index t x y) (hx:ρ x=.agg (ints k xs)) (hy:ρ y=.int ki (i:Int))
    (ht:P.underlying t=some (.array n e)) (he:P.underlying e=some (.int k)) (hq:(P.info? e).map (·.size)=some 1) (hl:xs.length=n) (hi:i<n) (hv:nth xs i=v):(execOp ρ o).run P w=.ok (.value (.int k v)) w:=by
  have h:=run_index_ints (P:=P) w (ki:=ki) ht he hq xs hl i hi
  rw [hv] at h
  unfold execOp
  simp only [ho,hx,hy,Sem.run_bind,h,Result.andThen_ok,Sem.run_pure]
theorem QkD (a b:Int) (ha:isN a) (hb:isN b) (W:World):(Op.equalIn 9999 47 (.agg (numA a)) (.agg (numA b))).run Tryd.prog W=.ok (a==b) W:=by
  obtain ⟨x0,x1,x2,x3,wx0,wx1,wx2,wx3,ex,eX⟩:=QbV a ha
  obtain ⟨y0,y1,y2,y3,wy0,wy1,wy2,wy3,ey,eY⟩:=QbV b hb
  rw [Qmq] at eX eY
  unfold words at eX eY
  rw [eX,eY]
  have h:=QcA (P:=Tryd.prog) W 9997 Tryd.underlying47 Tryd.underlying46 kj [x0,x1,x2,x3] [y0,y1,y2,y3] rfl rfl
  have e:decide ([x0,x1,x2,x3]=[y0,y1,y2,y3])=(a==b):=by
    have:[x0,x1,x2,x3]=[y0,y1,y2,y3]↔a=b:=by
      simp only [List.cons.injEq,and_true]
      unfold isW val at *
      constructor <;> omega
    rw [Bool.eq_iff_iff]
    simp only [decide_eq_true_eq,beq_iff_eq,this]
  rw [e] at h
  exact h
theorem Qj0 (a b:Int) (r:Bool) (ha:isN a) (hb:isN b) (h:(a==b)=r) (W:World):(binOp .eql 49 (.agg (numA a)) (.agg (numA b))).run Tryd.prog W=.ok (.bool r) W:=by
  have q:=QkD a b ha hb W
  have hp:∀ n,(Go.part 47 (numA n) 0).run Tryd.prog W=.ok (.agg (numA n)) W:=fun n=>kj
  rw [run_eql_struct,run_equalIn_struct W 9999 _ _ _ kj kj]
  obtain ⟨fd, hl, h1, h2, h3⟩ : ∃ fd, (Tryd.prog.fieldsOf 49).toList = [fd] ∧ fd.type = 47 ∧ fd.offset = 0 ∧ (fd.name != "_") = true := by
    cases hL:(Tryd.prog.fieldsOf 49).toList with
    | nil=>exact absurd (congrArg List.length hL) (by rw [show (Tryd.prog.fieldsOf 49).toList.length=1 from by kernel_rfl]; decide)
    | cons fd r =>
      have e1 : (Tryd.prog.fieldsOf 49).toList.map (fun f => (f.type, f.offset, f.name != "_")) = [(47, 0, true)] := kj
      rw [hL] at e1
      simp only [List.map_cons,List.cons.injEq,Prod.mk.injEq,List.map_eq_nil_iff] at e1
      obtain ⟨⟨a1,a2,a3⟩,rfl⟩:=e1
      exact ⟨fd,rfl,a1,a2,a3⟩
  have h4 : fd.name ≠ "_" := by simpa using h3
  rw [hl,Op.eqFields,if_pos h4]
  simp only [Sem.run_bind,h1,h2,hp,Result.andThen_ok,q]
  rw [h]
  cases r <;> simp [Op.eqFields]
theorem key_eql (xs ys:List Int) (r:Bool) (hx:xs.length=32) (hy:ys.length=32) (h:decide (xs=ys)=r) (W:World):(binOp .eql 23 (.agg (ints .u8 xs)) (.agg (ints .u8 ys))).run Tryd.prog W=.ok (.bool r) W:=by
  rw [QhZ W Tryd.underlying23 Tryd.underlying5 kj xs ys hx hy,h]
theorem QdG (xs ys:List Int) (r:Bool) (hx:xs.length=32) (hy:ys.length=32) (h:decide (xs=ys)=r) (W:World):(binOp .neq 23 (.agg (ints .u8 xs)) (.agg (ints .u8 ys))).run Tryd.prog W=.ok (.bool (!r)) W:=by
  rw [QkF W Tryd.underlying23 Tryd.underlying5 kj xs ys hx hy,h]
theorem Qly (a : Int) (r:Bool) (ha:isN a) (h:(a%2==1)=r) (w:World):Calls Tryd.prog 51 #[num a] w (Ret w (.bool r)):=by
  have:=odd a ha w
  rw [h] at this
  exact this
theorem Qoc (v : Int) (h:0≤v∧v<128):bits .or .u8 v 128=v+128:=by
  obtain ⟨n,rfl⟩:=Int.eq_ofNat_of_zero_le h.1
  have hn:n<128:=by omega
  have:∀ m:Fin 128,bits .or .u8 ((m.val:Nat):Int) 128=((m.val:Nat):Int)+128:=by decide +kernel
  exact this ⟨n,hn⟩
theorem Qfl (v : Int) (h:0≤v∧v≤255):bits .and .u8 v 127=v%128:=by
  obtain ⟨n,rfl⟩:=Int.eq_ofNat_of_zero_le h.1
  have hn:n<256:=by omega
  have:∀ m:Fin 256,bits .and .u8 ((m.val:Nat):Int) 127=((m.val:Nat):Int)%128:=by decide +kernel
  exact this ⟨n,hn⟩
theorem Qee {n : Int} (h:isN n):0≤nth (Qao n) 31∧nth (Qao n) 31<128:=by
  have e:nth (Qao n) 31=Qa1 n 31:=by unfold nth Qao part; simp
  rw [e]
  obtain ⟨h0,h1⟩:=h
  unfold Qa1
  unfold p at h1
  simp only [Int.reducePow]
  omega
theorem bytes_len (n : Int):(Qao n).length=32:=by unfold Qao part; simp
end Go.Proofs.YtdoadngmgmdlbaaDoor.Field
end
section
namespace Go.Proofs.YtdoadngmgmdlbaaDoor.Field
open Go Go.RowKit
open Rely Auto
theorem QfL (a : Int) (k:Nat):a%256^(k+1)=a%256^k+256^k*(a/256^k%256):=by
  have hB:(0:Int)<256^k:=Int.pow_pos (by decide)
  rw [Int.pow_succ]
  generalize (256:Int)^k=B at hB
  have e1:=Int.mul_ediv_add_emod a B
  have e2:=Int.mul_ediv_add_emod (a/B) 256
  have r1:=Int.emod_nonneg a (Int.ne_of_gt hB)
  have r2:=Int.emod_lt_of_pos a hB
  have s1:=Int.emod_nonneg (a/B) (show (256:Int)≠0 by decide)
  have s2:=Int.emod_lt_of_pos (a/B) (show (0:Int)<256 by decide)
  generalize a%B=r at *
  generalize a/B%256=s at *
  generalize a/B/256=t at *
  generalize a/B=q at *
  have e3:a=(r+B*s)+B*256*t:=by rw [←e1,←e2]; grind
  have m1:B*s≤B*255:=Int.mul_le_mul_of_nonneg_left (by omega) (by omega)
  have m2:0≤B*s:=Int.mul_nonneg (by omega) s1
  rw [e3,Int.add_mul_emod_self_left]
  exact Int.emod_eq_of_lt (by omega) (by omega)
theorem nth_set_self (xs : List Int) (i:Nat) (v:Int) (h:i<xs.length):nth (xs.set i v) i=v:=by unfold nth; simp [h]
def bval (bs : List Bool):Nat:=bs.foldl (fun n b=>2*n+if b then 1 else 0) 0
theorem QfS (n : Int):∀ k,k≤32→leAt (Qao n) 0 k=n%256^k
  | 0,_=>by simp [leAt,Int.emod_one]
  | k+1,hk=>by
    have q:nth (Qao n) (0+k)=Qa1 n k:=by unfold nth Qao part; simp [show k<32 by omega]
    rw [leAt,QfS n k (by omega),q,QfL]
    unfold Qa1
    rw [Int.mul_comm (n/256^k%256)]
theorem Qfz (es : List Int) (w:World):Calls Tryd.prog 46 #[.agg (ints .u8 es)] w fun e w'=>∃ v,e=.returned v∧Ext w w'∧∃ kb,w.heap.size≤kb∧v=.func (.func 82) #[] #[.pointer (some ⟨kb,0,none⟩)]∧w'.heap[kb]? = some (.cells (ints .u8 es) 23):=by
  have hmf:∀ (fn:Fn) (first cap:Array Value) (w:World),(Instr.makeFunc fn first cap).run Tryd.prog w=.ok (.func fn first cap) w:=fun _ _ _ _=>rfl
  go_enter Tryd.func46,Tryd.ntmps46
  go_wp2_with fail
  exact bodyPost_ret (results_tmp rfl _ _ _) rfl ⟨_,rfl,Qa8 _ _,w.heap.size,qR _,rfl,heap_alloc_new _ _⟩
def numB (es : List Int):Nat:=(leAt es 0 32).toNat
theorem Qmv (m : Int) (r:Nat) (hr:r<16):m%65536/2^r%2=m/2^r%2:=by
  rcases (by omega:r=0∨r=1∨r=2∨r=3∨r=4∨r=5∨r=6∨r=7∨r=8∨r=9∨r=10∨r=11∨r=12∨r=13∨r=14∨r=15) with rfl | rfl | rfl | rfl | rfl | rfl | rfl | rfl | rfl | rfl | rfl | rfl | rfl | rfl | rfl | rfl
  all_goals
    simp only [Int.reducePow]
    omega
theorem QmL (es : List Int) (hb:Qak es) (i:Nat) (hi:i<256):Qdb es i=leAt es 0 32/2^i%2:=by
  rw [←Qm2 es hb i hi]
  unfold lbit limb
  rw [Qmv _ _ (by omega),Int.ediv_ediv_of_nonneg (Int.pow_nonneg (by decide)),show (65536:Int)=2^16 by decide,←Int.pow_mul,←Int.pow_add,show 16*(i/16)+i%16=i by omega]
theorem Qlj (es : List Int) (hb:Qak es) (i:Nat) (hi:i<256):(if bitB es i=true then 1 else 0)=numB es/2^i%2:=by
  have h:=QmL es hb i hi
  have hr:=QhP es hb
  have e:((numB es:Nat):Int)=leAt es 0 32:=by unfold numB; omega
  rw [←e] at h
  have h2:Qdb es i=((numB es/2^i%2:Nat):Int):=by
    rw [h]; rw [Int.natCast_emod,Int.natCast_ediv,Int.natCast_pow]; rfl
  unfold bitB
  rw [h2]
  have:numB es/2^i%2<2:=Nat.mod_lt _ (by decide)
  rcases (by omega:numB es/2^i%2=0∨numB es/2^i%2=1) with q | q <;> rw [q] <;> rfl
theorem QjT (bs : List Bool) (b:Bool):bval (bs++[b])=2*bval bs+if b then 1 else 0:=by unfold bval; rw [List.foldl_append]; rfl
theorem QgN (es : List Int) (hb:Qak es):∀ k,k≤256→bval ((QaH es).take k)=numB es/2^(256-k)
  | 0,_=>by
    have hr:=QhP es hb
    have:numB es<2^256:=by
      have:(2:Int)^256=big:=by decide
      unfold numB
      have e2:((2^256:Nat):Int)=big:=by rw [←this]; rfl
      omega
    rw [Nat.sub_zero,Nat.div_eq_of_lt this]
    rfl
  | k+1,hk=>by
    have e:=Qf1 es (255-k) (by omega)
    rw [show 256-(255-k)=k+1 by omega,show 256-(255-k+1)=k by omega] at e
    rw [e,QjT,QgN es hb k (by omega),Qlj es hb _ (by omega),show 256-k=(255-k)+1 by omega,show 256-(k+1)=255-k by omega,Nat.pow_succ,←Nat.div_div_eq_div_mul]
    omega
theorem Qfi (es : List Int) (hb:Qak es):bval (QaH es)=numB es:=by
  have h:=QgN es hb 256 (qR _)
  rw [List.take_of_length_le (by rw [Qfk]; omega)] at h
  rw [h]
  simp
theorem Qna (n : Int):IntKind.u8.wrap n=n%256:=by rw [IntKind.wrap_u8]
theorem QaP (n : Int):Qak (Qao n):=fun v hv=>by
  unfold Qao part at hv
  simp only [List.mem_map,List.mem_range] at hv
  obtain ⟨i,hi,rfl⟩:=hv
  rw [if_pos hi]
  unfold Qa1
  omega
end Go.Proofs.YtdoadngmgmdlbaaDoor.Field
end
section
namespace Go.Proofs.YtdoadngmgmdlbaaDoor.Field
open Go Go.RowKit
open Rely Auto
abbrev QbQ : Array Value := ints .u64 [6346243789798364141, 1503914060200516822, 0, 1152921504606846976]
theorem Qns (m0 m1 m2 m3 y0 y1 y2 y3 v0 v1 v2 v3 ca0 ca1 ca2 ca3 u0 u1 u2 u3 d0 d1 d2:Int)
    (r0:∀ W,(callFunc 88 #[.int .u64 m0,.int .u64 y0,.int .u64 0]).run Tryd.prog W=.ok (.value (.tuple #[.int .u64 v0,.int .u64 ca0])) W)
    (s0:∀ W,(callFunc 89 #[.int .u64 v0,.int .u64 6346243789798364141,.int .u64 0]).run Tryd.prog W=.ok (.value (.tuple #[.int .u64 u0,.int .u64 d0])) W)
    (r1:∀ W,(callFunc 88 #[.int .u64 m1,.int .u64 y1,.int .u64 ca0]).run Tryd.prog W=.ok (.value (.tuple #[.int .u64 v1,.int .u64 ca1])) W)
    (s1:∀ W,(callFunc 89 #[.int .u64 v1,.int .u64 1503914060200516822,.int .u64 d0]).run Tryd.prog W=.ok (.value (.tuple #[.int .u64 u1,.int .u64 d1])) W)
    (r2:∀ W,(callFunc 88 #[.int .u64 m2,.int .u64 y2,.int .u64 ca1]).run Tryd.prog W=.ok (.value (.tuple #[.int .u64 v2,.int .u64 ca2])) W)
    (s2:∀ W,(callFunc 89 #[.int .u64 v2,.int .u64 0,.int .u64 d1]).run Tryd.prog W=.ok (.value (.tuple #[.int .u64 u2,.int .u64 d2])) W)
    (r3:∀ W,(callFunc 88 #[.int .u64 m3,.int .u64 y3,.int .u64 ca2]).run Tryd.prog W=.ok (.value (.tuple #[.int .u64 v3,.int .u64 ca3])) W)
    (s3:∀ W,(callFunc 89 #[.int .u64 v3,.int .u64 1152921504606846976,.int .u64 d2]).run Tryd.prog W=.ok (.value (.tuple #[.int .u64 u3,.int .u64 1])) W) (w:World) (tO:TypeId) (hO:w.heap[3]? = some (.cells QbQ tO)) :
    Calls Tryd.prog 63 #[.agg #[.int .u64 m0,.int .u64 m1,.int .u64 m2,.int .u64 m3],.agg #[.int .u64 y0,.int .u64 y1,.int .u64 y2,.int .u64 y3]] w (Ret w (words v0 v1 v2 v3)):=by
  refine enter 44 [(0,.agg (ints .u64 ([m0,m1,m2,m3]))),(1,.agg (ints .u64 ([y0,y1,y2,y3])))] Tryd.func63 rfl rfl kj rfl ?_
  refine wp_seq_k fun K2 hK2=>?_
  refine Qad ?_
  refine Qaj (ints .u64 ([m0,m1,m2,m3])) 97 2 rfl kj kj fun g3 W1 l3 e1 r3_1=>?_
  have x1:Ext w W1:=Ext.tr (Rely.Ext.refl w) e1
  have b3:w.heap.size≤g3:=qT (Rely.Ext.refl w).size l3
  refine Qaj (ints .u64 ([y0,y1,y2,y3])) 97 3 rfl kj kj fun g4 W2 l4 e2 r4_2=>?_
  have x2:Ext w W2:=Ext.tr x1 e2
  have b4:w.heap.size≤g4:=qT x1.size l4
  refine Qaj (ints .u64 ([0,0,0,0])) 97 4 rfl kj kj fun g5 W3 l5 e3 r5_3=>?_
  have x3:Ext w W3:=Ext.tr x2 e3
  have b5:w.heap.size≤g5:=qT x2.size l5
  refine Qag ?_
  refine hK2 _ _ ?_
  refine wp_seq_k fun K6 hK6=>?_
  refine Qad ?_
  refine Qab (.int .u64 0) 5 rfl kj kj ?_
  refine Qab (.int .u64 0) 6 rfl kj kj ?_
  refine Qag ?_
  refine hK6 _ _ ?_
  refine wp_seq_k fun K7 hK7=>?_
  refine Qad ?_
  have r3_3:=(Qaa (Qaa r3_1 e2) e3)
  refine Qab (.agg (ints .u64 ([m0,m1,m2,m3]))) 9 rfl kj (Qae 97 _ g3 97 _ _ r3_3 rfl kj kj (isz (n:=4) kj kj)) ?_
  refine Qaj (ints .u64 ([0,0,0,0])) 97 7 rfl kj kj fun g8 W4 l8 e4 r8_4=>?_
  have x4:Ext w W4:=Ext.tr x3 e4
  have b8:w.heap.size≤g8:=qT x3.size l8
  refine Qal g8 _ (ints .u64 ([m0,m1,m2,m3])) 97 r8_4 rfl kj (Qai 97 _ _ g8 97 _ _ r8_4 rfl kj kj (isz (n:=4) kj kj) (eqsz (n:=4) kj kj) kj) fun W5 p5 r8_5=>?_
  have x5:Ext w W5:=Puts.ext p5 x4 b8
  refine Qag ?_
  refine hK7 _ _ ?_
  refine wp_seq_k fun K9 hK9=>?_
  refine wp_seq_k fun K10 hK10=>?_
  refine Qad ?_
  refine Qab (.int .i64 0) 10 rfl kj kj ?_
  refine Qag ?_
  refine hK10 _ _ ?_
  refine wp_block ?_
  refine wp_loop_rounds 5 ?_
  show Code.wp _ _ (Exit.then (Code.rounds _ _ _ 4) _) _ _
  refine wp_seq_k fun K11 hK11=>?_
  refine Qad ?_
  refine Qab (.bool true) 11 rfl kj kj ?_
  refine Qag ?_
  refine hK11 _ _ ?_
  refine wp_seq_k fun K12 hK12=>?_
  refine cond_true kj ?_
  refine wp_skip ?_
  refine hK12 _ _ ?_
  refine wp_seq_k fun K13 hK13=>?_
  refine wp_block ?_
  refine wp_seq_k fun K14 hK14=>?_
  refine Qad ?_
  refine Qab (.int .i64 0) 12 rfl kj kj ?_
  refine Qab (.int .i64 0) 8 rfl kj kj ?_
  refine Qag ?_
  refine hK14 _ _ ?_
  refine wp_seq_k fun K15 hK15=>?_
  refine QaA (fun W=>True) [⟨none,[(8,none)]⟩,⟨none,[(8,none)]⟩,⟨none,[(2,none),(15,some 1)]⟩,⟨none,[(16,some 2)]⟩,⟨none,[(8,none)]⟩,⟨none,[(3,none),(18,some 4)]⟩,⟨none,[(19,some 5)]⟩,⟨none,[(5,none)]⟩,⟨none,[(17,some 3),(20,some 6),(21,some 7)]⟩,⟨none,[(22,some 8)]⟩,⟨none,[(13,some 9)]⟩,⟨none,[(13,some 9)]⟩,⟨none,[(2,none),(14,some 0)]⟩,⟨none,[(25,some 12),(23,some 10)]⟩,⟨none,[(24,some 11)]⟩] [] [11,14] kj kj kj (fun W hR=>trivial) fun F hF=>?_
  refine Qap (.int .i64 0) kj kj rfl (fun W=>kj) ?_
  refine Qap (.int .i64 0) kj kj rfl (fun W=>kj) ?_
  refine Qap (.pointer (some ⟨g3,0,none⟩)) kj kj rfl (fun W=>kj) ?_
  have r3_5:=(Puts.row p5 (Qaa r3_3 e4) (Qac r3_3 l8))
  refine QaM (.int .u64 m0) kj kj kj rfl (fun W hR=>(Qan 46 _ g3 0 97 _ (.int .u64 m0) _ (Qaa (Qaa r3_5 (Qah _)) hR) rfl kj kj kj)) ?_
  refine Qap (.int .i64 0) kj kj rfl (fun W=>kj) ?_
  refine Qap (.pointer (some ⟨g4,0,none⟩)) kj kj rfl (fun W=>kj) ?_
  have r4_3:=(Qaa r4_2 e3)
  have r4_5:=(Puts.row p5 (Qaa (Qaa r4_2 e3) e4) (Qac r4_3 l8))
  refine QaM (.int .u64 y0) kj kj kj rfl (fun W hR=>(Qan 46 _ g4 0 97 _ (.int .u64 y0) _ (Qaa (Qaa r4_5 (Qah _)) hR) rfl kj kj kj)) ?_
  refine Qap (.int .u64 0) kj kj rfl (fun W=>kj) ?_
  refine Qap (.tuple #[.int .u64 v0,.int .u64 ca0]) kj kj rfl (fun W=>(Qbs (f:=88) (args:=#[.int .u64 m0,.int .u64 y0,.int .u64 0]) _ _ _ rfl kj kj (r0 _))) ?_
  refine Qap (.tuple #[.int .u64 v0,.int .u64 ca0]) kj kj rfl (fun W=>kj) ?_
  refine Qap (.int .u64 v0) kj kj rfl (fun W=>kj) ?_
  refine Qap (.int .u64 ca0) kj kj rfl (fun W=>kj) ?_
  refine Qap (.pointer (some ⟨g3,0,none⟩)) kj kj rfl (fun W=>kj) ?_
  refine Qbp rfl ?_
  refine Qap (.int .u64 ca0) kj kj rfl (fun W=>kj) ?_
  refine QcE (hF _ kj fun W6 e6=>?_)
  simp only [List.nil_append,List.cons_append,fins,up]
  clear hF
  have x6:Ext w W6:=Ext.tr x5 e6
  have r3_6:=(Qaa r3_5 e6)
  refine QaX _ g3 _ (ints .u64 ([v0,m1,m2,m3])) 97 r3_6 rfl (Qa5 46 _ _ g3 0 97 _ _ r3_6 rfl kj kj kj (Nat.lt_of_lt_of_eq (show 0<4 by decide) rfl.symm)) (fun W hp=>trivial) fun W7 p7 r3_7=>?_
  have x7:Ext w W7:=Puts.ext p7 x6 b3
  refine QbL ?_
  refine hK15 _ _ ?_
  refine QaA (fun W=>True) [⟨none,[(8,none)]⟩,⟨none,[(8,none)]⟩,⟨none,[(2,none),(28,some 1)]⟩,⟨none,[(29,some 2)]⟩,⟨none,[(8,none)]⟩,⟨none,[(31,some 4)]⟩,⟨none,[(32,some 5)]⟩,⟨none,[(6,none)]⟩,⟨none,[(30,some 3),(33,some 6),(34,some 7)]⟩,⟨none,[(35,some 8)]⟩,⟨none,[(26,some 9)]⟩,⟨none,[(26,some 9)]⟩,⟨none,[(7,none),(27,some 0)]⟩,⟨none,[(38,some 12),(36,some 10)]⟩,⟨none,[(37,some 11)]⟩] [] [11,14] kj kj kj (fun W hR=>trivial) fun F hF=>?_
  refine Qap (.int .i64 0) kj kj rfl (fun W=>kj) ?_
  refine Qap (.int .i64 0) kj kj rfl (fun W=>kj) ?_
  refine Qap (.pointer (some ⟨g3,0,none⟩)) kj kj rfl (fun W=>kj) ?_
  refine QaM (.int .u64 v0) kj kj kj rfl (fun W hR=>(Qan 46 _ g3 0 97 _ (.int .u64 v0) _ (Qaa (Qaa r3_7 (Qah _)) hR) rfl kj kj kj)) ?_
  refine Qap (.int .i64 0) kj kj rfl (fun W=>kj) ?_
  refine Qap (.pointer (some ⟨3,0,none⟩)) kj kj rfl (fun W=>kj) ?_
  have r1_3:=(Qaa (Qaa (Qaa hO e1) e2) e3)
  have r1_7:=(Puts.row p7 (Qaa (Puts.row p5 (Qaa (Qaa (Qaa (Qaa hO e1) e2) e3) e4) (Qac r1_3 l8)) e6) (Qac hO l3))
  refine QaM (.int .u64 6346243789798364141) kj kj kj rfl (fun W hR=>(Qan 46 _ 3 0 tO _ (.int .u64 6346243789798364141) _ (Qaa (Qaa r1_7 (Qah _)) hR) rfl kj kj kj)) ?_
  refine Qap (.int .u64 0) kj kj rfl (fun W=>kj) ?_
  refine Qap (.tuple #[.int .u64 u0,.int .u64 d0]) kj kj rfl (fun W=>(Qbs (f:=89) (args:=#[.int .u64 v0,.int .u64 6346243789798364141,.int .u64 0]) _ _ _ rfl kj kj (s0 _))) ?_
  refine Qap (.tuple #[.int .u64 u0,.int .u64 d0]) kj kj rfl (fun W=>kj) ?_
  refine Qap (.int .u64 u0) kj kj rfl (fun W=>kj) ?_
  refine Qap (.int .u64 d0) kj kj rfl (fun W=>kj) ?_
  refine Qap (.pointer (some ⟨g8,0,none⟩)) kj kj rfl (fun W=>kj) ?_
  refine Qbp rfl ?_
  refine Qap (.int .u64 d0) kj kj rfl (fun W=>kj) ?_
  refine QcE (hF _ kj fun W8 e8=>?_)
  simp only [List.nil_append,List.cons_append,fins,up]
  clear hF
  have x8:Ext w W8:=Ext.tr x7 e8
  have r8_8:=(Qaa (Puts.row p7 (Qaa r8_5 e6) (Qat r3_3 l8)) e8)
  refine QaX _ g8 _ (ints .u64 ([u0,m1,m2,m3])) 97 r8_8 rfl (Qa5 46 _ _ g8 0 97 _ _ r8_8 rfl kj kj kj (Nat.lt_of_lt_of_eq (show 0<4 by decide) rfl.symm)) (fun W hp=>trivial) fun W9 p9 r8_9=>?_
  have x9:Ext w W9:=Puts.ext p9 x8 b8
  refine QbL ?_
  refine hK13 _ _ ?_
  refine Qad ?_
  refine Qab (.int .i64 1) 39 rfl kj kj ?_
  refine Qab (.int .i64 1) 10 rfl kj kj ?_
  refine Qag ?_
  show Code.rounds _ _ _ 4 _ _
  show Code.wp _ _ (Exit.then (Code.rounds _ _ _ 3) _) _ _
  refine wp_seq_k fun K16 hK16=>?_
  refine Qad ?_
  refine Qab (.bool true) 11 rfl kj kj ?_
  refine Qag ?_
  refine hK16 _ _ ?_
  refine wp_seq_k fun K17 hK17=>?_
  refine cond_true kj ?_
  refine wp_skip ?_
  refine hK17 _ _ ?_
  refine wp_seq_k fun K18 hK18=>?_
  refine wp_block ?_
  refine wp_seq_k fun K19 hK19=>?_
  refine Qad ?_
  refine Qab (.int .i64 1) 12 rfl kj kj ?_
  refine Qab (.int .i64 1) 8 rfl kj kj ?_
  refine Qag ?_
  refine hK19 _ _ ?_
  refine wp_seq_k fun K20 hK20=>?_
  refine QaA (fun W=>True) [⟨none,[(8,none)]⟩,⟨none,[(8,none)]⟩,⟨none,[(2,none),(15,some 1)]⟩,⟨none,[(16,some 2)]⟩,⟨none,[(8,none)]⟩,⟨none,[(3,none),(18,some 4)]⟩,⟨none,[(19,some 5)]⟩,⟨none,[(5,none)]⟩,⟨none,[(17,some 3),(20,some 6),(21,some 7)]⟩,⟨none,[(22,some 8)]⟩,⟨none,[(13,some 9)]⟩,⟨none,[(13,some 9)]⟩,⟨none,[(2,none),(14,some 0)]⟩,⟨none,[(25,some 12),(23,some 10)]⟩,⟨none,[(24,some 11)]⟩] [] [11,14] kj kj kj (fun W hR=>trivial) fun F hF=>?_
  refine Qap (.int .i64 1) kj kj rfl (fun W=>kj) ?_
  refine Qap (.int .i64 1) kj kj rfl (fun W=>kj) ?_
  refine Qap (.pointer (some ⟨g3,1,none⟩)) kj kj rfl (fun W=>kj) ?_
  have r3_9:=(Puts.row p9 (Qaa r3_7 e8) (Qac r3_3 l8))
  refine QaM (.int .u64 m1) kj kj kj rfl (fun W hR=>(Qan 46 _ g3 1 97 _ (.int .u64 m1) _ (Qaa (Qaa r3_9 (Qah _)) hR) rfl kj kj kj)) ?_
  refine Qap (.int .i64 1) kj kj rfl (fun W=>kj) ?_
  refine Qap (.pointer (some ⟨g4,1,none⟩)) kj kj rfl (fun W=>kj) ?_
  have r4_9:=(Puts.row p9 (Qaa (Puts.row p7 (Qaa r4_5 e6) (Qat r3_1 l4)) e8) (Qac r4_3 l8))
  refine QaM (.int .u64 y1) kj kj kj rfl (fun W hR=>(Qan 46 _ g4 1 97 _ (.int .u64 y1) _ (Qaa (Qaa r4_9 (Qah _)) hR) rfl kj kj kj)) ?_
  refine Qap (.int .u64 ca0) kj kj rfl (fun W=>kj) ?_
  refine Qap (.tuple #[.int .u64 v1,.int .u64 ca1]) kj kj rfl (fun W=>(Qbs (f:=88) (args:=#[.int .u64 m1,.int .u64 y1,.int .u64 ca0]) _ _ _ rfl kj kj (r1 _))) ?_
  refine Qap (.tuple #[.int .u64 v1,.int .u64 ca1]) kj kj rfl (fun W=>kj) ?_
  refine Qap (.int .u64 v1) kj kj rfl (fun W=>kj) ?_
  refine Qap (.int .u64 ca1) kj kj rfl (fun W=>kj) ?_
  refine Qap (.pointer (some ⟨g3,1,none⟩)) kj kj rfl (fun W=>kj) ?_
  refine Qbp rfl ?_
  refine Qap (.int .u64 ca1) kj kj rfl (fun W=>kj) ?_
  refine QcE (hF _ kj fun W10 e10=>?_)
  simp only [List.nil_append,List.cons_append,fins,up]
  clear hF
  have x10:Ext w W10:=Ext.tr x9 e10
  have r3_10:=(Qaa r3_9 e10)
  refine QaX _ g3 _ (ints .u64 ([v0,v1,m2,m3])) 97 r3_10 rfl (Qa5 46 _ _ g3 1 97 _ _ r3_10 rfl kj kj kj (Nat.lt_of_lt_of_eq (show 1<4 by decide) rfl.symm)) (fun W hp=>trivial) fun W11 p11 r3_11=>?_
  have x11:Ext w W11:=Puts.ext p11 x10 b3
  refine QbL ?_
  refine hK20 _ _ ?_
  refine QaA (fun W=>True) [⟨none,[(8,none)]⟩,⟨none,[(8,none)]⟩,⟨none,[(2,none),(28,some 1)]⟩,⟨none,[(29,some 2)]⟩,⟨none,[(8,none)]⟩,⟨none,[(31,some 4)]⟩,⟨none,[(32,some 5)]⟩,⟨none,[(6,none)]⟩,⟨none,[(30,some 3),(33,some 6),(34,some 7)]⟩,⟨none,[(35,some 8)]⟩,⟨none,[(26,some 9)]⟩,⟨none,[(26,some 9)]⟩,⟨none,[(7,none),(27,some 0)]⟩,⟨none,[(38,some 12),(36,some 10)]⟩,⟨none,[(37,some 11)]⟩] [] [11,14] kj kj kj (fun W hR=>trivial) fun F hF=>?_
  refine Qap (.int .i64 1) kj kj rfl (fun W=>kj) ?_
  refine Qap (.int .i64 1) kj kj rfl (fun W=>kj) ?_
  refine Qap (.pointer (some ⟨g3,1,none⟩)) kj kj rfl (fun W=>kj) ?_
  refine QaM (.int .u64 v1) kj kj kj rfl (fun W hR=>(Qan 46 _ g3 1 97 _ (.int .u64 v1) _ (Qaa (Qaa r3_11 (Qah _)) hR) rfl kj kj kj)) ?_
  refine Qap (.int .i64 1) kj kj rfl (fun W=>kj) ?_
  refine Qap (.pointer (some ⟨3,1,none⟩)) kj kj rfl (fun W=>kj) ?_
  have r1_11:=(Puts.row p11 (Qaa (Puts.row p9 (Qaa r1_7 e8) (Qac r1_3 l8)) e10) (Qac hO l3))
  refine QaM (.int .u64 1503914060200516822) kj kj kj rfl (fun W hR=>(Qan 46 _ 3 1 tO _ (.int .u64 1503914060200516822) _ (Qaa (Qaa r1_11 (Qah _)) hR) rfl kj kj kj)) ?_
  refine Qap (.int .u64 d0) kj kj rfl (fun W=>kj) ?_
  refine Qap (.tuple #[.int .u64 u1,.int .u64 d1]) kj kj rfl (fun W=>(Qbs (f:=89) (args:=#[.int .u64 v1,.int .u64 1503914060200516822,.int .u64 d0]) _ _ _ rfl kj kj (s1 _))) ?_
  refine Qap (.tuple #[.int .u64 u1,.int .u64 d1]) kj kj rfl (fun W=>kj) ?_
  refine Qap (.int .u64 u1) kj kj rfl (fun W=>kj) ?_
  refine Qap (.int .u64 d1) kj kj rfl (fun W=>kj) ?_
  refine Qap (.pointer (some ⟨g8,1,none⟩)) kj kj rfl (fun W=>kj) ?_
  refine Qbp rfl ?_
  refine Qap (.int .u64 d1) kj kj rfl (fun W=>kj) ?_
  refine QcE (hF _ kj fun W12 e12=>?_)
  simp only [List.nil_append,List.cons_append,fins,up]
  clear hF
  have x12:Ext w W12:=Ext.tr x11 e12
  have r8_12:=(Qaa (Puts.row p11 (Qaa r8_9 e10) (Qat r3_3 l8)) e12)
  refine QaX _ g8 _ (ints .u64 ([u0,u1,m2,m3])) 97 r8_12 rfl (Qa5 46 _ _ g8 1 97 _ _ r8_12 rfl kj kj kj (Nat.lt_of_lt_of_eq (show 1<4 by decide) rfl.symm)) (fun W hp=>trivial) fun W13 p13 r8_13=>?_
  have x13:Ext w W13:=Puts.ext p13 x12 b8
  refine QbL ?_
  refine hK18 _ _ ?_
  refine Qad ?_
  refine Qab (.int .i64 2) 39 rfl kj kj ?_
  refine Qab (.int .i64 2) 10 rfl kj kj ?_
  refine Qag ?_
  show Code.rounds _ _ _ 3 _ _
  show Code.wp _ _ (Exit.then (Code.rounds _ _ _ 2) _) _ _
  refine wp_seq_k fun K21 hK21=>?_
  refine Qad ?_
  refine Qab (.bool true) 11 rfl kj kj ?_
  refine Qag ?_
  refine hK21 _ _ ?_
  refine wp_seq_k fun K22 hK22=>?_
  refine cond_true kj ?_
  refine wp_skip ?_
  refine hK22 _ _ ?_
  refine wp_seq_k fun K23 hK23=>?_
  refine wp_block ?_
  refine wp_seq_k fun K24 hK24=>?_
  refine Qad ?_
  refine Qab (.int .i64 2) 12 rfl kj kj ?_
  refine Qab (.int .i64 2) 8 rfl kj kj ?_
  refine Qag ?_
  refine hK24 _ _ ?_
  refine wp_seq_k fun K25 hK25=>?_
  refine QaA (fun W=>True) [⟨none,[(8,none)]⟩,⟨none,[(8,none)]⟩,⟨none,[(2,none),(15,some 1)]⟩,⟨none,[(16,some 2)]⟩,⟨none,[(8,none)]⟩,⟨none,[(3,none),(18,some 4)]⟩,⟨none,[(19,some 5)]⟩,⟨none,[(5,none)]⟩,⟨none,[(17,some 3),(20,some 6),(21,some 7)]⟩,⟨none,[(22,some 8)]⟩,⟨none,[(13,some 9)]⟩,⟨none,[(13,some 9)]⟩,⟨none,[(2,none),(14,some 0)]⟩,⟨none,[(25,some 12),(23,some 10)]⟩,⟨none,[(24,some 11)]⟩] [] [11,14] kj kj kj (fun W hR=>trivial) fun F hF=>?_
  refine Qap (.int .i64 2) kj kj rfl (fun W=>kj) ?_
  refine Qap (.int .i64 2) kj kj rfl (fun W=>kj) ?_
  refine Qap (.pointer (some ⟨g3,2,none⟩)) kj kj rfl (fun W=>kj) ?_
  have r3_13:=(Puts.row p13 (Qaa r3_11 e12) (Qac r3_3 l8))
  refine QaM (.int .u64 m2) kj kj kj rfl (fun W hR=>(Qan 46 _ g3 2 97 _ (.int .u64 m2) _ (Qaa (Qaa r3_13 (Qah _)) hR) rfl kj kj kj)) ?_
  refine Qap (.int .i64 2) kj kj rfl (fun W=>kj) ?_
  refine Qap (.pointer (some ⟨g4,2,none⟩)) kj kj rfl (fun W=>kj) ?_
  have r4_13:=(Puts.row p13 (Qaa (Puts.row p11 (Qaa r4_9 e10) (Qat r3_1 l4)) e12) (Qac r4_3 l8))
  refine QaM (.int .u64 y2) kj kj kj rfl (fun W hR=>(Qan 46 _ g4 2 97 _ (.int .u64 y2) _ (Qaa (Qaa r4_13 (Qah _)) hR) rfl kj kj kj)) ?_
  refine Qap (.int .u64 ca1) kj kj rfl (fun W=>kj) ?_
  refine Qap (.tuple #[.int .u64 v2,.int .u64 ca2]) kj kj rfl (fun W=>(Qbs (f:=88) (args:=#[.int .u64 m2,.int .u64 y2,.int .u64 ca1]) _ _ _ rfl kj kj (r2 _))) ?_
  refine Qap (.tuple #[.int .u64 v2,.int .u64 ca2]) kj kj rfl (fun W=>kj) ?_
  refine Qap (.int .u64 v2) kj kj rfl (fun W=>kj) ?_
  refine Qap (.int .u64 ca2) kj kj rfl (fun W=>kj) ?_
  refine Qap (.pointer (some ⟨g3,2,none⟩)) kj kj rfl (fun W=>kj) ?_
  refine Qbp rfl ?_
  refine Qap (.int .u64 ca2) kj kj rfl (fun W=>kj) ?_
  refine QcE (hF _ kj fun W14 e14=>?_)
  simp only [List.nil_append,List.cons_append,fins,up]
  clear hF
  have x14:Ext w W14:=Ext.tr x13 e14
  have r3_14:=(Qaa r3_13 e14)
  refine QaX _ g3 _ (ints .u64 ([v0,v1,v2,m3])) 97 r3_14 rfl (Qa5 46 _ _ g3 2 97 _ _ r3_14 rfl kj kj kj (Nat.lt_of_lt_of_eq (show 2<4 by decide) rfl.symm)) (fun W hp=>trivial) fun W15 p15 r3_15=>?_
  have x15:Ext w W15:=Puts.ext p15 x14 b3
  refine QbL ?_
  refine hK25 _ _ ?_
  refine QaA (fun W=>True) [⟨none,[(8,none)]⟩,⟨none,[(8,none)]⟩,⟨none,[(2,none),(28,some 1)]⟩,⟨none,[(29,some 2)]⟩,⟨none,[(8,none)]⟩,⟨none,[(31,some 4)]⟩,⟨none,[(32,some 5)]⟩,⟨none,[(6,none)]⟩,⟨none,[(30,some 3),(33,some 6),(34,some 7)]⟩,⟨none,[(35,some 8)]⟩,⟨none,[(26,some 9)]⟩,⟨none,[(26,some 9)]⟩,⟨none,[(7,none),(27,some 0)]⟩,⟨none,[(38,some 12),(36,some 10)]⟩,⟨none,[(37,some 11)]⟩] [] [11,14] kj kj kj (fun W hR=>trivial) fun F hF=>?_
  refine Qap (.int .i64 2) kj kj rfl (fun W=>kj) ?_
  refine Qap (.int .i64 2) kj kj rfl (fun W=>kj) ?_
  refine Qap (.pointer (some ⟨g3,2,none⟩)) kj kj rfl (fun W=>kj) ?_
  refine QaM (.int .u64 v2) kj kj kj rfl (fun W hR=>(Qan 46 _ g3 2 97 _ (.int .u64 v2) _ (Qaa (Qaa r3_15 (Qah _)) hR) rfl kj kj kj)) ?_
  refine Qap (.int .i64 2) kj kj rfl (fun W=>kj) ?_
  refine Qap (.pointer (some ⟨3,2,none⟩)) kj kj rfl (fun W=>kj) ?_
  have r1_15:=(Puts.row p15 (Qaa (Puts.row p13 (Qaa r1_11 e12) (Qac r1_3 l8)) e14) (Qac hO l3))
  refine QaM (.int .u64 0) kj kj kj rfl (fun W hR=>(Qan 46 _ 3 2 tO _ (.int .u64 0) _ (Qaa (Qaa r1_15 (Qah _)) hR) rfl kj kj kj)) ?_
  refine Qap (.int .u64 d1) kj kj rfl (fun W=>kj) ?_
  refine Qap (.tuple #[.int .u64 u2,.int .u64 d2]) kj kj rfl (fun W=>(Qbs (f:=89) (args:=#[.int .u64 v2,.int .u64 0,.int .u64 d1]) _ _ _ rfl kj kj (s2 _))) ?_
  refine Qap (.tuple #[.int .u64 u2,.int .u64 d2]) kj kj rfl (fun W=>kj) ?_
  refine Qap (.int .u64 u2) kj kj rfl (fun W=>kj) ?_
  refine Qap (.int .u64 d2) kj kj rfl (fun W=>kj) ?_
  refine Qap (.pointer (some ⟨g8,2,none⟩)) kj kj rfl (fun W=>kj) ?_
  refine Qbp rfl ?_
  refine Qap (.int .u64 d2) kj kj rfl (fun W=>kj) ?_
  refine QcE (hF _ kj fun W16 e16=>?_)
  simp only [List.nil_append,List.cons_append,fins,up]
  clear hF
  have x16:Ext w W16:=Ext.tr x15 e16
  have r8_16:=(Qaa (Puts.row p15 (Qaa r8_13 e14) (Qat r3_3 l8)) e16)
  refine QaX _ g8 _ (ints .u64 ([u0,u1,u2,m3])) 97 r8_16 rfl (Qa5 46 _ _ g8 2 97 _ _ r8_16 rfl kj kj kj (Nat.lt_of_lt_of_eq (show 2<4 by decide) rfl.symm)) (fun W hp=>trivial) fun W17 p17 r8_17=>?_
  have x17:Ext w W17:=Puts.ext p17 x16 b8
  refine QbL ?_
  refine hK23 _ _ ?_
  refine Qad ?_
  refine Qab (.int .i64 3) 39 rfl kj kj ?_
  refine Qab (.int .i64 3) 10 rfl kj kj ?_
  refine Qag ?_
  show Code.rounds _ _ _ 2 _ _
  show Code.wp _ _ (Exit.then (Code.rounds _ _ _ 1) _) _ _
  refine wp_seq_k fun K26 hK26=>?_
  refine Qad ?_
  refine Qab (.bool true) 11 rfl kj kj ?_
  refine Qag ?_
  refine hK26 _ _ ?_
  refine wp_seq_k fun K27 hK27=>?_
  refine cond_true kj ?_
  refine wp_skip ?_
  refine hK27 _ _ ?_
  refine wp_seq_k fun K28 hK28=>?_
  refine wp_block ?_
  refine wp_seq_k fun K29 hK29=>?_
  refine Qad ?_
  refine Qab (.int .i64 3) 12 rfl kj kj ?_
  refine Qab (.int .i64 3) 8 rfl kj kj ?_
  refine Qag ?_
  refine hK29 _ _ ?_
  refine wp_seq_k fun K30 hK30=>?_
  refine QaA (fun W=>True) [⟨none,[(8,none)]⟩,⟨none,[(8,none)]⟩,⟨none,[(2,none),(15,some 1)]⟩,⟨none,[(16,some 2)]⟩,⟨none,[(8,none)]⟩,⟨none,[(3,none),(18,some 4)]⟩,⟨none,[(19,some 5)]⟩,⟨none,[(5,none)]⟩,⟨none,[(17,some 3),(20,some 6),(21,some 7)]⟩,⟨none,[(22,some 8)]⟩,⟨none,[(13,some 9)]⟩,⟨none,[(13,some 9)]⟩,⟨none,[(2,none),(14,some 0)]⟩,⟨none,[(25,some 12),(23,some 10)]⟩,⟨none,[(24,some 11)]⟩] [] [11,14] kj kj kj (fun W hR=>trivial) fun F hF=>?_
  refine Qap (.int .i64 3) kj kj rfl (fun W=>kj) ?_
  refine Qap (.int .i64 3) kj kj rfl (fun W=>kj) ?_
  refine Qap (.pointer (some ⟨g3,3,none⟩)) kj kj rfl (fun W=>kj) ?_
  have r3_17:=(Puts.row p17 (Qaa r3_15 e16) (Qac r3_3 l8))
  refine QaM (.int .u64 m3) kj kj kj rfl (fun W hR=>(Qan 46 _ g3 3 97 _ (.int .u64 m3) _ (Qaa (Qaa r3_17 (Qah _)) hR) rfl kj kj kj)) ?_
  refine Qap (.int .i64 3) kj kj rfl (fun W=>kj) ?_
  refine Qap (.pointer (some ⟨g4,3,none⟩)) kj kj rfl (fun W=>kj) ?_
  have r4_17:=(Puts.row p17 (Qaa (Puts.row p15 (Qaa r4_13 e14) (Qat r3_1 l4)) e16) (Qac r4_3 l8))
  refine QaM (.int .u64 y3) kj kj kj rfl (fun W hR=>(Qan 46 _ g4 3 97 _ (.int .u64 y3) _ (Qaa (Qaa r4_17 (Qah _)) hR) rfl kj kj kj)) ?_
  refine Qap (.int .u64 ca2) kj kj rfl (fun W=>kj) ?_
  refine Qap (.tuple #[.int .u64 v3,.int .u64 ca3]) kj kj rfl (fun W=>(Qbs (f:=88) (args:=#[.int .u64 m3,.int .u64 y3,.int .u64 ca2]) _ _ _ rfl kj kj (r3 _))) ?_
  refine Qap (.tuple #[.int .u64 v3,.int .u64 ca3]) kj kj rfl (fun W=>kj) ?_
  refine Qap (.int .u64 v3) kj kj rfl (fun W=>kj) ?_
  refine Qap (.int .u64 ca3) kj kj rfl (fun W=>kj) ?_
  refine Qap (.pointer (some ⟨g3,3,none⟩)) kj kj rfl (fun W=>kj) ?_
  refine Qbp rfl ?_
  refine Qap (.int .u64 ca3) kj kj rfl (fun W=>kj) ?_
  refine QcE (hF _ kj fun W18 e18=>?_)
  simp only [List.nil_append,List.cons_append,fins,up]
  clear hF
  have x18:Ext w W18:=Ext.tr x17 e18
  have r3_18:=(Qaa r3_17 e18)
  refine QaX _ g3 _ (ints .u64 ([v0,v1,v2,v3])) 97 r3_18 rfl (Qa5 46 _ _ g3 3 97 _ _ r3_18 rfl kj kj kj (Nat.lt_of_lt_of_eq (show 3<4 by decide) rfl.symm)) (fun W hp=>trivial) fun W19 p19 r3_19=>?_
  have x19:Ext w W19:=Puts.ext p19 x18 b3
  refine QbL ?_
  refine hK30 _ _ ?_
  refine QaA (fun W=>True) [⟨none,[(8,none)]⟩,⟨none,[(8,none)]⟩,⟨none,[(2,none),(28,some 1)]⟩,⟨none,[(29,some 2)]⟩,⟨none,[(8,none)]⟩,⟨none,[(31,some 4)]⟩,⟨none,[(32,some 5)]⟩,⟨none,[(6,none)]⟩,⟨none,[(30,some 3),(33,some 6),(34,some 7)]⟩,⟨none,[(35,some 8)]⟩,⟨none,[(26,some 9)]⟩,⟨none,[(26,some 9)]⟩,⟨none,[(7,none),(27,some 0)]⟩,⟨none,[(38,some 12),(36,some 10)]⟩,⟨none,[(37,some 11)]⟩] [] [11,14] kj kj kj (fun W hR=>trivial) fun F hF=>?_
  refine Qap (.int .i64 3) kj kj rfl (fun W=>kj) ?_
  refine Qap (.int .i64 3) kj kj rfl (fun W=>kj) ?_
  refine Qap (.pointer (some ⟨g3,3,none⟩)) kj kj rfl (fun W=>kj) ?_
  refine QaM (.int .u64 v3) kj kj kj rfl (fun W hR=>(Qan 46 _ g3 3 97 _ (.int .u64 v3) _ (Qaa (Qaa r3_19 (Qah _)) hR) rfl kj kj kj)) ?_
  refine Qap (.int .i64 3) kj kj rfl (fun W=>kj) ?_
  refine Qap (.pointer (some ⟨3,3,none⟩)) kj kj rfl (fun W=>kj) ?_
  have r1_19:=(Puts.row p19 (Qaa (Puts.row p17 (Qaa r1_15 e16) (Qac r1_3 l8)) e18) (Qac hO l3))
  refine QaM (.int .u64 1152921504606846976) kj kj kj rfl (fun W hR=>(Qan 46 _ 3 3 tO _ (.int .u64 1152921504606846976) _ (Qaa (Qaa r1_19 (Qah _)) hR) rfl kj kj kj)) ?_
  refine Qap (.int .u64 d2) kj kj rfl (fun W=>kj) ?_
  refine Qap (.tuple #[.int .u64 u3,.int .u64 1]) kj kj rfl (fun W=>(Qbs (f:=89) (args:=#[.int .u64 v3,.int .u64 1152921504606846976,.int .u64 d2]) _ _ _ rfl kj kj (s3 _))) ?_
  refine Qap (.tuple #[.int .u64 u3,.int .u64 1]) kj kj rfl (fun W=>kj) ?_
  refine Qap (.int .u64 u3) kj kj rfl (fun W=>kj) ?_
  refine Qap (.int .u64 1) kj kj rfl (fun W=>kj) ?_
  refine Qap (.pointer (some ⟨g8,3,none⟩)) kj kj rfl (fun W=>kj) ?_
  refine Qbp rfl ?_
  refine Qap (.int .u64 1) kj kj rfl (fun W=>kj) ?_
  refine QcE (hF _ kj fun W20 e20=>?_)
  simp only [List.nil_append,List.cons_append,fins,up]
  clear hF
  have x20:Ext w W20:=Ext.tr x19 e20
  have r8_20:=(Qaa (Puts.row p19 (Qaa r8_17 e18) (Qat r3_3 l8)) e20)
  refine QaX _ g8 _ (ints .u64 ([u0,u1,u2,u3])) 97 r8_20 rfl (Qa5 46 _ _ g8 3 97 _ _ r8_20 rfl kj kj kj (Nat.lt_of_lt_of_eq (show 3<4 by decide) rfl.symm)) (fun W hp=>trivial) fun W21 p21 r8_21=>?_
  have x21:Ext w W21:=Puts.ext p21 x20 b8
  refine QbL ?_
  refine hK28 _ _ ?_
  refine Qad ?_
  refine Qab (.int .i64 4) 39 rfl kj kj ?_
  refine Qab (.int .i64 4) 10 rfl kj kj ?_
  refine Qag ?_
  show Code.rounds _ _ _ 1 _ _
  show Code.wp _ _ (Exit.then (Code.rounds _ _ _ 0) _) _ _
  refine wp_seq_k fun K31 hK31=>?_
  refine Qad ?_
  refine Qab (.bool false) 11 rfl kj kj ?_
  refine Qag ?_
  refine hK31 _ _ ?_
  refine wp_seq_k fun K32 hK32=>?_
  refine cond_false kj ?_
  refine wp_exit ?_
  refine hK9 _ _ ?_
  refine wp_seq_k fun K33 hK33=>?_
  refine wp_seq_k fun K34 hK34=>?_
  refine Qad ?_
  refine Qab (.int .u64 1) 40 rfl kj kj ?_
  refine Qab (.bool true) 41 rfl kj kj ?_
  refine Qag ?_
  refine hK34 _ _ ?_
  refine cond_true kj ?_
  refine wp_seq_k fun K35 hK35=>?_
  refine Qad ?_
  have r3_21:=(Puts.row p21 (Qaa r3_19 e20) (Qac r3_3 l8))
  refine Qab (.agg (ints .u64 ([v0,v1,v2,v3]))) 42 rfl kj (Qae 97 _ g3 97 _ _ r3_21 rfl kj kj (isz (n:=4) kj kj)) ?_
  have r3_2:=(Qaa r3_1 e2)
  have r5_21:=(Puts.row p21 (Qaa (Puts.row p19 (Qaa (Puts.row p17 (Qaa (Puts.row p15 (Qaa (Puts.row p13 (Qaa (Puts.row p11 (Qaa (Puts.row p9 (Qaa (Puts.row p7 (Qaa (Puts.row p5 (Qaa r5_3 e4) (Qac r5_3 l8)) e6) (Qat r3_2 l5)) e8) (Qac r5_3 l8)) e10) (Qat r3_2 l5)) e12) (Qac r5_3 l8)) e14) (Qat r3_2 l5)) e16) (Qac r5_3 l8)) e18) (Qat r3_2 l5)) e20) (Qac r5_3 l8))
  refine Qal g5 _ (ints .u64 ([v0,v1,v2,v3])) 97 r5_21 rfl kj (Qai 97 _ _ g5 97 _ _ r5_21 rfl kj kj (isz (n:=4) kj kj) (eqsz (n:=4) kj kj) kj) fun W22 p22 r5_22=>?_
  have x22:Ext w W22:=Puts.ext p22 x21 b5
  refine Qag ?_
  refine hK35 _ _ ?_
  refine wp_ret ?_
  exact (show bodyPost _ _ _ .ret _ _ from ret1 (.agg (ints .u64 ([v0,v1,v2,v3]))) rfl (Qa9 g5 97 _ r5_22 kj kj (isz (n:=4) kj kj)) ⟨rfl,x22⟩)
theorem Qnt (m0 m1 m2 m3 y0 y1 y2 y3 v0 v1 v2 v3 ca0 ca1 ca2 ca3 u0 u1 u2 u3 d0 d1 d2:Int)
    (r0:∀ W,(callFunc 88 #[.int .u64 m0,.int .u64 y0,.int .u64 0]).run Tryd.prog W=.ok (.value (.tuple #[.int .u64 v0,.int .u64 ca0])) W)
    (s0:∀ W,(callFunc 89 #[.int .u64 v0,.int .u64 6346243789798364141,.int .u64 0]).run Tryd.prog W=.ok (.value (.tuple #[.int .u64 u0,.int .u64 d0])) W)
    (r1:∀ W,(callFunc 88 #[.int .u64 m1,.int .u64 y1,.int .u64 ca0]).run Tryd.prog W=.ok (.value (.tuple #[.int .u64 v1,.int .u64 ca1])) W)
    (s1:∀ W,(callFunc 89 #[.int .u64 v1,.int .u64 1503914060200516822,.int .u64 d0]).run Tryd.prog W=.ok (.value (.tuple #[.int .u64 u1,.int .u64 d1])) W)
    (r2:∀ W,(callFunc 88 #[.int .u64 m2,.int .u64 y2,.int .u64 ca1]).run Tryd.prog W=.ok (.value (.tuple #[.int .u64 v2,.int .u64 ca2])) W)
    (s2:∀ W,(callFunc 89 #[.int .u64 v2,.int .u64 0,.int .u64 d1]).run Tryd.prog W=.ok (.value (.tuple #[.int .u64 u2,.int .u64 d2])) W)
    (r3:∀ W,(callFunc 88 #[.int .u64 m3,.int .u64 y3,.int .u64 ca2]).run Tryd.prog W=.ok (.value (.tuple #[.int .u64 v3,.int .u64 ca3])) W)
    (s3:∀ W,(callFunc 89 #[.int .u64 v3,.int .u64 1152921504606846976,.int .u64 d2]).run Tryd.prog W=.ok (.value (.tuple #[.int .u64 u3,.int .u64 0])) W) (w:World) (tO:TypeId) (hO:w.heap[3]? = some (.cells QbQ tO)) :
    Calls Tryd.prog 63 #[.agg #[.int .u64 m0,.int .u64 m1,.int .u64 m2,.int .u64 m3],.agg #[.int .u64 y0,.int .u64 y1,.int .u64 y2,.int .u64 y3]] w (Ret w (words u0 u1 u2 u3)):=by
  refine enter 44 [(0,.agg (ints .u64 ([m0,m1,m2,m3]))),(1,.agg (ints .u64 ([y0,y1,y2,y3])))] Tryd.func63 rfl rfl kj rfl ?_
  refine wp_seq_k fun K2 hK2=>?_
  refine Qad ?_
  refine Qaj (ints .u64 ([m0,m1,m2,m3])) 97 2 rfl kj kj fun g3 W1 l3 e1 r3_1=>?_
  have x1:Ext w W1:=Ext.tr (Rely.Ext.refl w) e1
  have b3:w.heap.size≤g3:=qT (Rely.Ext.refl w).size l3
  refine Qaj (ints .u64 ([y0,y1,y2,y3])) 97 3 rfl kj kj fun g4 W2 l4 e2 r4_2=>?_
  have x2:Ext w W2:=Ext.tr x1 e2
  have b4:w.heap.size≤g4:=qT x1.size l4
  refine Qaj (ints .u64 ([0,0,0,0])) 97 4 rfl kj kj fun g5 W3 l5 e3 r5_3=>?_
  have x3:Ext w W3:=Ext.tr x2 e3
  have b5:w.heap.size≤g5:=qT x2.size l5
  refine Qag ?_
  refine hK2 _ _ ?_
  refine wp_seq_k fun K6 hK6=>?_
  refine Qad ?_
  refine Qab (.int .u64 0) 5 rfl kj kj ?_
  refine Qab (.int .u64 0) 6 rfl kj kj ?_
  refine Qag ?_
  refine hK6 _ _ ?_
  refine wp_seq_k fun K7 hK7=>?_
  refine Qad ?_
  have r3_3:=(Qaa (Qaa r3_1 e2) e3)
  refine Qab (.agg (ints .u64 ([m0,m1,m2,m3]))) 9 rfl kj (Qae 97 _ g3 97 _ _ r3_3 rfl kj kj (isz (n:=4) kj kj)) ?_
  refine Qaj (ints .u64 ([0,0,0,0])) 97 7 rfl kj kj fun g8 W4 l8 e4 r8_4=>?_
  have x4:Ext w W4:=Ext.tr x3 e4
  have b8:w.heap.size≤g8:=qT x3.size l8
  refine Qal g8 _ (ints .u64 ([m0,m1,m2,m3])) 97 r8_4 rfl kj (Qai 97 _ _ g8 97 _ _ r8_4 rfl kj kj (isz (n:=4) kj kj) (eqsz (n:=4) kj kj) kj) fun W5 p5 r8_5=>?_
  have x5:Ext w W5:=Puts.ext p5 x4 b8
  refine Qag ?_
  refine hK7 _ _ ?_
  refine wp_seq_k fun K9 hK9=>?_
  refine wp_seq_k fun K10 hK10=>?_
  refine Qad ?_
  refine Qab (.int .i64 0) 10 rfl kj kj ?_
  refine Qag ?_
  refine hK10 _ _ ?_
  refine wp_block ?_
  refine wp_loop_rounds 5 ?_
  show Code.wp _ _ (Exit.then (Code.rounds _ _ _ 4) _) _ _
  refine wp_seq_k fun K11 hK11=>?_
  refine Qad ?_
  refine Qab (.bool true) 11 rfl kj kj ?_
  refine Qag ?_
  refine hK11 _ _ ?_
  refine wp_seq_k fun K12 hK12=>?_
  refine cond_true kj ?_
  refine wp_skip ?_
  refine hK12 _ _ ?_
  refine wp_seq_k fun K13 hK13=>?_
  refine wp_block ?_
  refine wp_seq_k fun K14 hK14=>?_
  refine Qad ?_
  refine Qab (.int .i64 0) 12 rfl kj kj ?_
  refine Qab (.int .i64 0) 8 rfl kj kj ?_
  refine Qag ?_
  refine hK14 _ _ ?_
  refine wp_seq_k fun K15 hK15=>?_
  refine QaA (fun W=>True) [⟨none,[(8,none)]⟩,⟨none,[(8,none)]⟩,⟨none,[(2,none),(15,some 1)]⟩,⟨none,[(16,some 2)]⟩,⟨none,[(8,none)]⟩,⟨none,[(3,none),(18,some 4)]⟩,⟨none,[(19,some 5)]⟩,⟨none,[(5,none)]⟩,⟨none,[(17,some 3),(20,some 6),(21,some 7)]⟩,⟨none,[(22,some 8)]⟩,⟨none,[(13,some 9)]⟩,⟨none,[(13,some 9)]⟩,⟨none,[(2,none),(14,some 0)]⟩,⟨none,[(25,some 12),(23,some 10)]⟩,⟨none,[(24,some 11)]⟩] [] [11,14] kj kj kj (fun W hR=>trivial) fun F hF=>?_
  refine Qap (.int .i64 0) kj kj rfl (fun W=>kj) ?_
  refine Qap (.int .i64 0) kj kj rfl (fun W=>kj) ?_
  refine Qap (.pointer (some ⟨g3,0,none⟩)) kj kj rfl (fun W=>kj) ?_
  have r3_5:=(Puts.row p5 (Qaa r3_3 e4) (Qac r3_3 l8))
  refine QaM (.int .u64 m0) kj kj kj rfl (fun W hR=>(Qan 46 _ g3 0 97 _ (.int .u64 m0) _ (Qaa (Qaa r3_5 (Qah _)) hR) rfl kj kj kj)) ?_
  refine Qap (.int .i64 0) kj kj rfl (fun W=>kj) ?_
  refine Qap (.pointer (some ⟨g4,0,none⟩)) kj kj rfl (fun W=>kj) ?_
  have r4_3:=(Qaa r4_2 e3)
  have r4_5:=(Puts.row p5 (Qaa (Qaa r4_2 e3) e4) (Qac r4_3 l8))
  refine QaM (.int .u64 y0) kj kj kj rfl (fun W hR=>(Qan 46 _ g4 0 97 _ (.int .u64 y0) _ (Qaa (Qaa r4_5 (Qah _)) hR) rfl kj kj kj)) ?_
  refine Qap (.int .u64 0) kj kj rfl (fun W=>kj) ?_
  refine Qap (.tuple #[.int .u64 v0,.int .u64 ca0]) kj kj rfl (fun W=>(Qbs (f:=88) (args:=#[.int .u64 m0,.int .u64 y0,.int .u64 0]) _ _ _ rfl kj kj (r0 _))) ?_
  refine Qap (.tuple #[.int .u64 v0,.int .u64 ca0]) kj kj rfl (fun W=>kj) ?_
  refine Qap (.int .u64 v0) kj kj rfl (fun W=>kj) ?_
  refine Qap (.int .u64 ca0) kj kj rfl (fun W=>kj) ?_
  refine Qap (.pointer (some ⟨g3,0,none⟩)) kj kj rfl (fun W=>kj) ?_
  refine Qbp rfl ?_
  refine Qap (.int .u64 ca0) kj kj rfl (fun W=>kj) ?_
  refine QcE (hF _ kj fun W6 e6=>?_)
  simp only [List.nil_append,List.cons_append,fins,up]
  clear hF
  have x6:Ext w W6:=Ext.tr x5 e6
  have r3_6:=(Qaa r3_5 e6)
  refine QaX _ g3 _ (ints .u64 ([v0,m1,m2,m3])) 97 r3_6 rfl (Qa5 46 _ _ g3 0 97 _ _ r3_6 rfl kj kj kj (Nat.lt_of_lt_of_eq (show 0<4 by decide) rfl.symm)) (fun W hp=>trivial) fun W7 p7 r3_7=>?_
  have x7:Ext w W7:=Puts.ext p7 x6 b3
  refine QbL ?_
  refine hK15 _ _ ?_
  refine QaA (fun W=>True) [⟨none,[(8,none)]⟩,⟨none,[(8,none)]⟩,⟨none,[(2,none),(28,some 1)]⟩,⟨none,[(29,some 2)]⟩,⟨none,[(8,none)]⟩,⟨none,[(31,some 4)]⟩,⟨none,[(32,some 5)]⟩,⟨none,[(6,none)]⟩,⟨none,[(30,some 3),(33,some 6),(34,some 7)]⟩,⟨none,[(35,some 8)]⟩,⟨none,[(26,some 9)]⟩,⟨none,[(26,some 9)]⟩,⟨none,[(7,none),(27,some 0)]⟩,⟨none,[(38,some 12),(36,some 10)]⟩,⟨none,[(37,some 11)]⟩] [] [11,14] kj kj kj (fun W hR=>trivial) fun F hF=>?_
  refine Qap (.int .i64 0) kj kj rfl (fun W=>kj) ?_
  refine Qap (.int .i64 0) kj kj rfl (fun W=>kj) ?_
  refine Qap (.pointer (some ⟨g3,0,none⟩)) kj kj rfl (fun W=>kj) ?_
  refine QaM (.int .u64 v0) kj kj kj rfl (fun W hR=>(Qan 46 _ g3 0 97 _ (.int .u64 v0) _ (Qaa (Qaa r3_7 (Qah _)) hR) rfl kj kj kj)) ?_
  refine Qap (.int .i64 0) kj kj rfl (fun W=>kj) ?_
  refine Qap (.pointer (some ⟨3,0,none⟩)) kj kj rfl (fun W=>kj) ?_
  have r1_3:=(Qaa (Qaa (Qaa hO e1) e2) e3)
  have r1_7:=(Puts.row p7 (Qaa (Puts.row p5 (Qaa (Qaa (Qaa (Qaa hO e1) e2) e3) e4) (Qac r1_3 l8)) e6) (Qac hO l3))
  refine QaM (.int .u64 6346243789798364141) kj kj kj rfl (fun W hR=>(Qan 46 _ 3 0 tO _ (.int .u64 6346243789798364141) _ (Qaa (Qaa r1_7 (Qah _)) hR) rfl kj kj kj)) ?_
  refine Qap (.int .u64 0) kj kj rfl (fun W=>kj) ?_
  refine Qap (.tuple #[.int .u64 u0,.int .u64 d0]) kj kj rfl (fun W=>(Qbs (f:=89) (args:=#[.int .u64 v0,.int .u64 6346243789798364141,.int .u64 0]) _ _ _ rfl kj kj (s0 _))) ?_
  refine Qap (.tuple #[.int .u64 u0,.int .u64 d0]) kj kj rfl (fun W=>kj) ?_
  refine Qap (.int .u64 u0) kj kj rfl (fun W=>kj) ?_
  refine Qap (.int .u64 d0) kj kj rfl (fun W=>kj) ?_
  refine Qap (.pointer (some ⟨g8,0,none⟩)) kj kj rfl (fun W=>kj) ?_
  refine Qbp rfl ?_
  refine Qap (.int .u64 d0) kj kj rfl (fun W=>kj) ?_
  refine QcE (hF _ kj fun W8 e8=>?_)
  simp only [List.nil_append,List.cons_append,fins,up]
  clear hF
  have x8:Ext w W8:=Ext.tr x7 e8
  have r8_8:=(Qaa (Puts.row p7 (Qaa r8_5 e6) (Qat r3_3 l8)) e8)
  refine QaX _ g8 _ (ints .u64 ([u0,m1,m2,m3])) 97 r8_8 rfl (Qa5 46 _ _ g8 0 97 _ _ r8_8 rfl kj kj kj (Nat.lt_of_lt_of_eq (show 0<4 by decide) rfl.symm)) (fun W hp=>trivial) fun W9 p9 r8_9=>?_
  have x9:Ext w W9:=Puts.ext p9 x8 b8
  refine QbL ?_
  refine hK13 _ _ ?_
  refine Qad ?_
  refine Qab (.int .i64 1) 39 rfl kj kj ?_
  refine Qab (.int .i64 1) 10 rfl kj kj ?_
  refine Qag ?_
  show Code.rounds _ _ _ 4 _ _
  show Code.wp _ _ (Exit.then (Code.rounds _ _ _ 3) _) _ _
  refine wp_seq_k fun K16 hK16=>?_
  refine Qad ?_
  refine Qab (.bool true) 11 rfl kj kj ?_
  refine Qag ?_
  refine hK16 _ _ ?_
  refine wp_seq_k fun K17 hK17=>?_
  refine cond_true kj ?_
  refine wp_skip ?_
  refine hK17 _ _ ?_
  refine wp_seq_k fun K18 hK18=>?_
  refine wp_block ?_
  refine wp_seq_k fun K19 hK19=>?_
  refine Qad ?_
  refine Qab (.int .i64 1) 12 rfl kj kj ?_
  refine Qab (.int .i64 1) 8 rfl kj kj ?_
  refine Qag ?_
  refine hK19 _ _ ?_
  refine wp_seq_k fun K20 hK20=>?_
  refine QaA (fun W=>True) [⟨none,[(8,none)]⟩,⟨none,[(8,none)]⟩,⟨none,[(2,none),(15,some 1)]⟩,⟨none,[(16,some 2)]⟩,⟨none,[(8,none)]⟩,⟨none,[(3,none),(18,some 4)]⟩,⟨none,[(19,some 5)]⟩,⟨none,[(5,none)]⟩,⟨none,[(17,some 3),(20,some 6),(21,some 7)]⟩,⟨none,[(22,some 8)]⟩,⟨none,[(13,some 9)]⟩,⟨none,[(13,some 9)]⟩,⟨none,[(2,none),(14,some 0)]⟩,⟨none,[(25,some 12),(23,some 10)]⟩,⟨none,[(24,some 11)]⟩] [] [11,14] kj kj kj (fun W hR=>trivial) fun F hF=>?_
  refine Qap (.int .i64 1) kj kj rfl (fun W=>kj) ?_
  refine Qap (.int .i64 1) kj kj rfl (fun W=>kj) ?_
  refine Qap (.pointer (some ⟨g3,1,none⟩)) kj kj rfl (fun W=>kj) ?_
  have r3_9:=(Puts.row p9 (Qaa r3_7 e8) (Qac r3_3 l8))
  refine QaM (.int .u64 m1) kj kj kj rfl (fun W hR=>(Qan 46 _ g3 1 97 _ (.int .u64 m1) _ (Qaa (Qaa r3_9 (Qah _)) hR) rfl kj kj kj)) ?_
  refine Qap (.int .i64 1) kj kj rfl (fun W=>kj) ?_
  refine Qap (.pointer (some ⟨g4,1,none⟩)) kj kj rfl (fun W=>kj) ?_
  have r4_9:=(Puts.row p9 (Qaa (Puts.row p7 (Qaa r4_5 e6) (Qat r3_1 l4)) e8) (Qac r4_3 l8))
  refine QaM (.int .u64 y1) kj kj kj rfl (fun W hR=>(Qan 46 _ g4 1 97 _ (.int .u64 y1) _ (Qaa (Qaa r4_9 (Qah _)) hR) rfl kj kj kj)) ?_
  refine Qap (.int .u64 ca0) kj kj rfl (fun W=>kj) ?_
  refine Qap (.tuple #[.int .u64 v1,.int .u64 ca1]) kj kj rfl (fun W=>(Qbs (f:=88) (args:=#[.int .u64 m1,.int .u64 y1,.int .u64 ca0]) _ _ _ rfl kj kj (r1 _))) ?_
  refine Qap (.tuple #[.int .u64 v1,.int .u64 ca1]) kj kj rfl (fun W=>kj) ?_
  refine Qap (.int .u64 v1) kj kj rfl (fun W=>kj) ?_
  refine Qap (.int .u64 ca1) kj kj rfl (fun W=>kj) ?_
  refine Qap (.pointer (some ⟨g3,1,none⟩)) kj kj rfl (fun W=>kj) ?_
  refine Qbp rfl ?_
  refine Qap (.int .u64 ca1) kj kj rfl (fun W=>kj) ?_
  refine QcE (hF _ kj fun W10 e10=>?_)
  simp only [List.nil_append,List.cons_append,fins,up]
  clear hF
  have x10:Ext w W10:=Ext.tr x9 e10
  have r3_10:=(Qaa r3_9 e10)
  refine QaX _ g3 _ (ints .u64 ([v0,v1,m2,m3])) 97 r3_10 rfl (Qa5 46 _ _ g3 1 97 _ _ r3_10 rfl kj kj kj (Nat.lt_of_lt_of_eq (show 1<4 by decide) rfl.symm)) (fun W hp=>trivial) fun W11 p11 r3_11=>?_
  have x11:Ext w W11:=Puts.ext p11 x10 b3
  refine QbL ?_
  refine hK20 _ _ ?_
  refine QaA (fun W=>True) [⟨none,[(8,none)]⟩,⟨none,[(8,none)]⟩,⟨none,[(2,none),(28,some 1)]⟩,⟨none,[(29,some 2)]⟩,⟨none,[(8,none)]⟩,⟨none,[(31,some 4)]⟩,⟨none,[(32,some 5)]⟩,⟨none,[(6,none)]⟩,⟨none,[(30,some 3),(33,some 6),(34,some 7)]⟩,⟨none,[(35,some 8)]⟩,⟨none,[(26,some 9)]⟩,⟨none,[(26,some 9)]⟩,⟨none,[(7,none),(27,some 0)]⟩,⟨none,[(38,some 12),(36,some 10)]⟩,⟨none,[(37,some 11)]⟩] [] [11,14] kj kj kj (fun W hR=>trivial) fun F hF=>?_
  refine Qap (.int .i64 1) kj kj rfl (fun W=>kj) ?_
  refine Qap (.int .i64 1) kj kj rfl (fun W=>kj) ?_
  refine Qap (.pointer (some ⟨g3,1,none⟩)) kj kj rfl (fun W=>kj) ?_
  refine QaM (.int .u64 v1) kj kj kj rfl (fun W hR=>(Qan 46 _ g3 1 97 _ (.int .u64 v1) _ (Qaa (Qaa r3_11 (Qah _)) hR) rfl kj kj kj)) ?_
  refine Qap (.int .i64 1) kj kj rfl (fun W=>kj) ?_
  refine Qap (.pointer (some ⟨3,1,none⟩)) kj kj rfl (fun W=>kj) ?_
  have r1_11:=(Puts.row p11 (Qaa (Puts.row p9 (Qaa r1_7 e8) (Qac r1_3 l8)) e10) (Qac hO l3))
  refine QaM (.int .u64 1503914060200516822) kj kj kj rfl (fun W hR=>(Qan 46 _ 3 1 tO _ (.int .u64 1503914060200516822) _ (Qaa (Qaa r1_11 (Qah _)) hR) rfl kj kj kj)) ?_
  refine Qap (.int .u64 d0) kj kj rfl (fun W=>kj) ?_
  refine Qap (.tuple #[.int .u64 u1,.int .u64 d1]) kj kj rfl (fun W=>(Qbs (f:=89) (args:=#[.int .u64 v1,.int .u64 1503914060200516822,.int .u64 d0]) _ _ _ rfl kj kj (s1 _))) ?_
  refine Qap (.tuple #[.int .u64 u1,.int .u64 d1]) kj kj rfl (fun W=>kj) ?_
  refine Qap (.int .u64 u1) kj kj rfl (fun W=>kj) ?_
  refine Qap (.int .u64 d1) kj kj rfl (fun W=>kj) ?_
  refine Qap (.pointer (some ⟨g8,1,none⟩)) kj kj rfl (fun W=>kj) ?_
  refine Qbp rfl ?_
  refine Qap (.int .u64 d1) kj kj rfl (fun W=>kj) ?_
  refine QcE (hF _ kj fun W12 e12=>?_)
  simp only [List.nil_append,List.cons_append,fins,up]
  clear hF
  have x12:Ext w W12:=Ext.tr x11 e12
  have r8_12:=(Qaa (Puts.row p11 (Qaa r8_9 e10) (Qat r3_3 l8)) e12)
  refine QaX _ g8 _ (ints .u64 ([u0,u1,m2,m3])) 97 r8_12 rfl (Qa5 46 _ _ g8 1 97 _ _ r8_12 rfl kj kj kj (Nat.lt_of_lt_of_eq (show 1<4 by decide) rfl.symm)) (fun W hp=>trivial) fun W13 p13 r8_13=>?_
  have x13:Ext w W13:=Puts.ext p13 x12 b8
  refine QbL ?_
  refine hK18 _ _ ?_
  refine Qad ?_
  refine Qab (.int .i64 2) 39 rfl kj kj ?_
  refine Qab (.int .i64 2) 10 rfl kj kj ?_
  refine Qag ?_
  show Code.rounds _ _ _ 3 _ _
  show Code.wp _ _ (Exit.then (Code.rounds _ _ _ 2) _) _ _
  refine wp_seq_k fun K21 hK21=>?_
  refine Qad ?_
  refine Qab (.bool true) 11 rfl kj kj ?_
  refine Qag ?_
  refine hK21 _ _ ?_
  refine wp_seq_k fun K22 hK22=>?_
  refine cond_true kj ?_
  refine wp_skip ?_
  refine hK22 _ _ ?_
  refine wp_seq_k fun K23 hK23=>?_
  refine wp_block ?_
  refine wp_seq_k fun K24 hK24=>?_
  refine Qad ?_
  refine Qab (.int .i64 2) 12 rfl kj kj ?_
  refine Qab (.int .i64 2) 8 rfl kj kj ?_
  refine Qag ?_
  refine hK24 _ _ ?_
  refine wp_seq_k fun K25 hK25=>?_
  refine QaA (fun W=>True) [⟨none,[(8,none)]⟩,⟨none,[(8,none)]⟩,⟨none,[(2,none),(15,some 1)]⟩,⟨none,[(16,some 2)]⟩,⟨none,[(8,none)]⟩,⟨none,[(3,none),(18,some 4)]⟩,⟨none,[(19,some 5)]⟩,⟨none,[(5,none)]⟩,⟨none,[(17,some 3),(20,some 6),(21,some 7)]⟩,⟨none,[(22,some 8)]⟩,⟨none,[(13,some 9)]⟩,⟨none,[(13,some 9)]⟩,⟨none,[(2,none),(14,some 0)]⟩,⟨none,[(25,some 12),(23,some 10)]⟩,⟨none,[(24,some 11)]⟩] [] [11,14] kj kj kj (fun W hR=>trivial) fun F hF=>?_
  refine Qap (.int .i64 2) kj kj rfl (fun W=>kj) ?_
  refine Qap (.int .i64 2) kj kj rfl (fun W=>kj) ?_
  refine Qap (.pointer (some ⟨g3,2,none⟩)) kj kj rfl (fun W=>kj) ?_
  have r3_13:=(Puts.row p13 (Qaa r3_11 e12) (Qac r3_3 l8))
  refine QaM (.int .u64 m2) kj kj kj rfl (fun W hR=>(Qan 46 _ g3 2 97 _ (.int .u64 m2) _ (Qaa (Qaa r3_13 (Qah _)) hR) rfl kj kj kj)) ?_
  refine Qap (.int .i64 2) kj kj rfl (fun W=>kj) ?_
  refine Qap (.pointer (some ⟨g4,2,none⟩)) kj kj rfl (fun W=>kj) ?_
  have r4_13:=(Puts.row p13 (Qaa (Puts.row p11 (Qaa r4_9 e10) (Qat r3_1 l4)) e12) (Qac r4_3 l8))
  refine QaM (.int .u64 y2) kj kj kj rfl (fun W hR=>(Qan 46 _ g4 2 97 _ (.int .u64 y2) _ (Qaa (Qaa r4_13 (Qah _)) hR) rfl kj kj kj)) ?_
  refine Qap (.int .u64 ca1) kj kj rfl (fun W=>kj) ?_
  refine Qap (.tuple #[.int .u64 v2,.int .u64 ca2]) kj kj rfl (fun W=>(Qbs (f:=88) (args:=#[.int .u64 m2,.int .u64 y2,.int .u64 ca1]) _ _ _ rfl kj kj (r2 _))) ?_
  refine Qap (.tuple #[.int .u64 v2,.int .u64 ca2]) kj kj rfl (fun W=>kj) ?_
  refine Qap (.int .u64 v2) kj kj rfl (fun W=>kj) ?_
  refine Qap (.int .u64 ca2) kj kj rfl (fun W=>kj) ?_
  refine Qap (.pointer (some ⟨g3,2,none⟩)) kj kj rfl (fun W=>kj) ?_
  refine Qbp rfl ?_
  refine Qap (.int .u64 ca2) kj kj rfl (fun W=>kj) ?_
  refine QcE (hF _ kj fun W14 e14=>?_)
  simp only [List.nil_append,List.cons_append,fins,up]
  clear hF
  have x14:Ext w W14:=Ext.tr x13 e14
  have r3_14:=(Qaa r3_13 e14)
  refine QaX _ g3 _ (ints .u64 ([v0,v1,v2,m3])) 97 r3_14 rfl (Qa5 46 _ _ g3 2 97 _ _ r3_14 rfl kj kj kj (Nat.lt_of_lt_of_eq (show 2<4 by decide) rfl.symm)) (fun W hp=>trivial) fun W15 p15 r3_15=>?_
  have x15:Ext w W15:=Puts.ext p15 x14 b3
  refine QbL ?_
  refine hK25 _ _ ?_
  refine QaA (fun W=>True) [⟨none,[(8,none)]⟩,⟨none,[(8,none)]⟩,⟨none,[(2,none),(28,some 1)]⟩,⟨none,[(29,some 2)]⟩,⟨none,[(8,none)]⟩,⟨none,[(31,some 4)]⟩,⟨none,[(32,some 5)]⟩,⟨none,[(6,none)]⟩,⟨none,[(30,some 3),(33,some 6),(34,some 7)]⟩,⟨none,[(35,some 8)]⟩,⟨none,[(26,some 9)]⟩,⟨none,[(26,some 9)]⟩,⟨none,[(7,none),(27,some 0)]⟩,⟨none,[(38,some 12),(36,some 10)]⟩,⟨none,[(37,some 11)]⟩] [] [11,14] kj kj kj (fun W hR=>trivial) fun F hF=>?_
  refine Qap (.int .i64 2) kj kj rfl (fun W=>kj) ?_
  refine Qap (.int .i64 2) kj kj rfl (fun W=>kj) ?_
  refine Qap (.pointer (some ⟨g3,2,none⟩)) kj kj rfl (fun W=>kj) ?_
  refine QaM (.int .u64 v2) kj kj kj rfl (fun W hR=>(Qan 46 _ g3 2 97 _ (.int .u64 v2) _ (Qaa (Qaa r3_15 (Qah _)) hR) rfl kj kj kj)) ?_
  refine Qap (.int .i64 2) kj kj rfl (fun W=>kj) ?_
  refine Qap (.pointer (some ⟨3,2,none⟩)) kj kj rfl (fun W=>kj) ?_
  have r1_15:=(Puts.row p15 (Qaa (Puts.row p13 (Qaa r1_11 e12) (Qac r1_3 l8)) e14) (Qac hO l3))
  refine QaM (.int .u64 0) kj kj kj rfl (fun W hR=>(Qan 46 _ 3 2 tO _ (.int .u64 0) _ (Qaa (Qaa r1_15 (Qah _)) hR) rfl kj kj kj)) ?_
  refine Qap (.int .u64 d1) kj kj rfl (fun W=>kj) ?_
  refine Qap (.tuple #[.int .u64 u2,.int .u64 d2]) kj kj rfl (fun W=>(Qbs (f:=89) (args:=#[.int .u64 v2,.int .u64 0,.int .u64 d1]) _ _ _ rfl kj kj (s2 _))) ?_
  refine Qap (.tuple #[.int .u64 u2,.int .u64 d2]) kj kj rfl (fun W=>kj) ?_
  refine Qap (.int .u64 u2) kj kj rfl (fun W=>kj) ?_
  refine Qap (.int .u64 d2) kj kj rfl (fun W=>kj) ?_
  refine Qap (.pointer (some ⟨g8,2,none⟩)) kj kj rfl (fun W=>kj) ?_
  refine Qbp rfl ?_
  refine Qap (.int .u64 d2) kj kj rfl (fun W=>kj) ?_
  refine QcE (hF _ kj fun W16 e16=>?_)
  simp only [List.nil_append,List.cons_append,fins,up]
  clear hF
  have x16:Ext w W16:=Ext.tr x15 e16
  have r8_16:=(Qaa (Puts.row p15 (Qaa r8_13 e14) (Qat r3_3 l8)) e16)
  refine QaX _ g8 _ (ints .u64 ([u0,u1,u2,m3])) 97 r8_16 rfl (Qa5 46 _ _ g8 2 97 _ _ r8_16 rfl kj kj kj (Nat.lt_of_lt_of_eq (show 2<4 by decide) rfl.symm)) (fun W hp=>trivial) fun W17 p17 r8_17=>?_
  have x17:Ext w W17:=Puts.ext p17 x16 b8
  refine QbL ?_
  refine hK23 _ _ ?_
  refine Qad ?_
  refine Qab (.int .i64 3) 39 rfl kj kj ?_
  refine Qab (.int .i64 3) 10 rfl kj kj ?_
  refine Qag ?_
  show Code.rounds _ _ _ 2 _ _
  show Code.wp _ _ (Exit.then (Code.rounds _ _ _ 1) _) _ _
  refine wp_seq_k fun K26 hK26=>?_
  refine Qad ?_
  refine Qab (.bool true) 11 rfl kj kj ?_
  refine Qag ?_
  refine hK26 _ _ ?_
  refine wp_seq_k fun K27 hK27=>?_
  refine cond_true kj ?_
  refine wp_skip ?_
  refine hK27 _ _ ?_
  refine wp_seq_k fun K28 hK28=>?_
  refine wp_block ?_
  refine wp_seq_k fun K29 hK29=>?_
  refine Qad ?_
  refine Qab (.int .i64 3) 12 rfl kj kj ?_
  refine Qab (.int .i64 3) 8 rfl kj kj ?_
  refine Qag ?_
  refine hK29 _ _ ?_
  refine wp_seq_k fun K30 hK30=>?_
  refine QaA (fun W=>True) [⟨none,[(8,none)]⟩,⟨none,[(8,none)]⟩,⟨none,[(2,none),(15,some 1)]⟩,⟨none,[(16,some 2)]⟩,⟨none,[(8,none)]⟩,⟨none,[(3,none),(18,some 4)]⟩,⟨none,[(19,some 5)]⟩,⟨none,[(5,none)]⟩,⟨none,[(17,some 3),(20,some 6),(21,some 7)]⟩,⟨none,[(22,some 8)]⟩,⟨none,[(13,some 9)]⟩,⟨none,[(13,some 9)]⟩,⟨none,[(2,none),(14,some 0)]⟩,⟨none,[(25,some 12),(23,some 10)]⟩,⟨none,[(24,some 11)]⟩] [] [11,14] kj kj kj (fun W hR=>trivial) fun F hF=>?_
  refine Qap (.int .i64 3) kj kj rfl (fun W=>kj) ?_
  refine Qap (.int .i64 3) kj kj rfl (fun W=>kj) ?_
  refine Qap (.pointer (some ⟨g3,3,none⟩)) kj kj rfl (fun W=>kj) ?_
  have r3_17:=(Puts.row p17 (Qaa r3_15 e16) (Qac r3_3 l8))
  refine QaM (.int .u64 m3) kj kj kj rfl (fun W hR=>(Qan 46 _ g3 3 97 _ (.int .u64 m3) _ (Qaa (Qaa r3_17 (Qah _)) hR) rfl kj kj kj)) ?_
  refine Qap (.int .i64 3) kj kj rfl (fun W=>kj) ?_
  refine Qap (.pointer (some ⟨g4,3,none⟩)) kj kj rfl (fun W=>kj) ?_
  have r4_17:=(Puts.row p17 (Qaa (Puts.row p15 (Qaa r4_13 e14) (Qat r3_1 l4)) e16) (Qac r4_3 l8))
  refine QaM (.int .u64 y3) kj kj kj rfl (fun W hR=>(Qan 46 _ g4 3 97 _ (.int .u64 y3) _ (Qaa (Qaa r4_17 (Qah _)) hR) rfl kj kj kj)) ?_
  refine Qap (.int .u64 ca2) kj kj rfl (fun W=>kj) ?_
  refine Qap (.tuple #[.int .u64 v3,.int .u64 ca3]) kj kj rfl (fun W=>(Qbs (f:=88) (args:=#[.int .u64 m3,.int .u64 y3,.int .u64 ca2]) _ _ _ rfl kj kj (r3 _))) ?_
  refine Qap (.tuple #[.int .u64 v3,.int .u64 ca3]) kj kj rfl (fun W=>kj) ?_
  refine Qap (.int .u64 v3) kj kj rfl (fun W=>kj) ?_
  refine Qap (.int .u64 ca3) kj kj rfl (fun W=>kj) ?_
  refine Qap (.pointer (some ⟨g3,3,none⟩)) kj kj rfl (fun W=>kj) ?_
  refine Qbp rfl ?_
  refine Qap (.int .u64 ca3) kj kj rfl (fun W=>kj) ?_
  refine QcE (hF _ kj fun W18 e18=>?_)
  simp only [List.nil_append,List.cons_append,fins,up]
  clear hF
  have x18:Ext w W18:=Ext.tr x17 e18
  have r3_18:=(Qaa r3_17 e18)
  refine QaX _ g3 _ (ints .u64 ([v0,v1,v2,v3])) 97 r3_18 rfl (Qa5 46 _ _ g3 3 97 _ _ r3_18 rfl kj kj kj (Nat.lt_of_lt_of_eq (show 3<4 by decide) rfl.symm)) (fun W hp=>trivial) fun W19 p19 r3_19=>?_
  have x19:Ext w W19:=Puts.ext p19 x18 b3
  refine QbL ?_
  refine hK30 _ _ ?_
  refine QaA (fun W=>True) [⟨none,[(8,none)]⟩,⟨none,[(8,none)]⟩,⟨none,[(2,none),(28,some 1)]⟩,⟨none,[(29,some 2)]⟩,⟨none,[(8,none)]⟩,⟨none,[(31,some 4)]⟩,⟨none,[(32,some 5)]⟩,⟨none,[(6,none)]⟩,⟨none,[(30,some 3),(33,some 6),(34,some 7)]⟩,⟨none,[(35,some 8)]⟩,⟨none,[(26,some 9)]⟩,⟨none,[(26,some 9)]⟩,⟨none,[(7,none),(27,some 0)]⟩,⟨none,[(38,some 12),(36,some 10)]⟩,⟨none,[(37,some 11)]⟩] [] [11,14] kj kj kj (fun W hR=>trivial) fun F hF=>?_
  refine Qap (.int .i64 3) kj kj rfl (fun W=>kj) ?_
  refine Qap (.int .i64 3) kj kj rfl (fun W=>kj) ?_
  refine Qap (.pointer (some ⟨g3,3,none⟩)) kj kj rfl (fun W=>kj) ?_
  refine QaM (.int .u64 v3) kj kj kj rfl (fun W hR=>(Qan 46 _ g3 3 97 _ (.int .u64 v3) _ (Qaa (Qaa r3_19 (Qah _)) hR) rfl kj kj kj)) ?_
  refine Qap (.int .i64 3) kj kj rfl (fun W=>kj) ?_
  refine Qap (.pointer (some ⟨3,3,none⟩)) kj kj rfl (fun W=>kj) ?_
  have r1_19:=(Puts.row p19 (Qaa (Puts.row p17 (Qaa r1_15 e16) (Qac r1_3 l8)) e18) (Qac hO l3))
  refine QaM (.int .u64 1152921504606846976) kj kj kj rfl (fun W hR=>(Qan 46 _ 3 3 tO _ (.int .u64 1152921504606846976) _ (Qaa (Qaa r1_19 (Qah _)) hR) rfl kj kj kj)) ?_
  refine Qap (.int .u64 d2) kj kj rfl (fun W=>kj) ?_
  refine Qap (.tuple #[.int .u64 u3,.int .u64 0]) kj kj rfl (fun W=>(Qbs (f:=89) (args:=#[.int .u64 v3,.int .u64 1152921504606846976,.int .u64 d2]) _ _ _ rfl kj kj (s3 _))) ?_
  refine Qap (.tuple #[.int .u64 u3,.int .u64 0]) kj kj rfl (fun W=>kj) ?_
  refine Qap (.int .u64 u3) kj kj rfl (fun W=>kj) ?_
  refine Qap (.int .u64 0) kj kj rfl (fun W=>kj) ?_
  refine Qap (.pointer (some ⟨g8,3,none⟩)) kj kj rfl (fun W=>kj) ?_
  refine Qbp rfl ?_
  refine Qap (.int .u64 0) kj kj rfl (fun W=>kj) ?_
  refine QcE (hF _ kj fun W20 e20=>?_)
  simp only [List.nil_append,List.cons_append,fins,up]
  clear hF
  have x20:Ext w W20:=Ext.tr x19 e20
  have r8_20:=(Qaa (Puts.row p19 (Qaa r8_17 e18) (Qat r3_3 l8)) e20)
  refine QaX _ g8 _ (ints .u64 ([u0,u1,u2,u3])) 97 r8_20 rfl (Qa5 46 _ _ g8 3 97 _ _ r8_20 rfl kj kj kj (Nat.lt_of_lt_of_eq (show 3<4 by decide) rfl.symm)) (fun W hp=>trivial) fun W21 p21 r8_21=>?_
  have x21:Ext w W21:=Puts.ext p21 x20 b8
  refine QbL ?_
  refine hK28 _ _ ?_
  refine Qad ?_
  refine Qab (.int .i64 4) 39 rfl kj kj ?_
  refine Qab (.int .i64 4) 10 rfl kj kj ?_
  refine Qag ?_
  show Code.rounds _ _ _ 1 _ _
  show Code.wp _ _ (Exit.then (Code.rounds _ _ _ 0) _) _ _
  refine wp_seq_k fun K31 hK31=>?_
  refine Qad ?_
  refine Qab (.bool false) 11 rfl kj kj ?_
  refine Qag ?_
  refine hK31 _ _ ?_
  refine wp_seq_k fun K32 hK32=>?_
  refine cond_false kj ?_
  refine wp_exit ?_
  refine hK9 _ _ ?_
  refine wp_seq_k fun K33 hK33=>?_
  refine wp_seq_k fun K34 hK34=>?_
  refine Qad ?_
  refine Qab (.int .u64 0) 40 rfl kj kj ?_
  refine Qab (.bool false) 41 rfl kj kj ?_
  refine Qag ?_
  refine hK34 _ _ ?_
  refine cond_false kj ?_
  refine wp_skip ?_
  refine hK33 _ _ ?_
  refine wp_seq_k fun K35 hK35=>?_
  refine Qad ?_
  refine Qab (.agg (ints .u64 ([u0,u1,u2,u3]))) 43 rfl kj (Qae 97 _ g8 97 _ _ r8_21 rfl kj kj (isz (n:=4) kj kj)) ?_
  have r3_2:=(Qaa r3_1 e2)
  have r5_21:=(Puts.row p21 (Qaa (Puts.row p19 (Qaa (Puts.row p17 (Qaa (Puts.row p15 (Qaa (Puts.row p13 (Qaa (Puts.row p11 (Qaa (Puts.row p9 (Qaa (Puts.row p7 (Qaa (Puts.row p5 (Qaa r5_3 e4) (Qac r5_3 l8)) e6) (Qat r3_2 l5)) e8) (Qac r5_3 l8)) e10) (Qat r3_2 l5)) e12) (Qac r5_3 l8)) e14) (Qat r3_2 l5)) e16) (Qac r5_3 l8)) e18) (Qat r3_2 l5)) e20) (Qac r5_3 l8))
  refine Qal g5 _ (ints .u64 ([u0,u1,u2,u3])) 97 r5_21 rfl kj (Qai 97 _ _ g5 97 _ _ r5_21 rfl kj kj (isz (n:=4) kj kj) (eqsz (n:=4) kj kj) kj) fun W22 p22 r5_22=>?_
  have x22:Ext w W22:=Puts.ext p22 x21 b5
  refine Qag ?_
  refine hK35 _ _ ?_
  refine wp_ret ?_
  exact (show bodyPost _ _ _ .ret _ _ from ret1 (.agg (ints .u64 ([u0,u1,u2,u3]))) rfl (Qa9 g5 97 _ r5_22 kj kj (isz (n:=4) kj kj)) ⟨rfl,x22⟩)
end Go.Proofs.YtdoadngmgmdlbaaDoor.Field
end
section
namespace Go.Proofs.YtdoadngmgmdlbaaDoor.Field
open Go Go.RowKit Go.Shelf
open Rely
attribute [local go_sem] Oper.semAt_some
def QdK (bs : List Int):List Bool:=(List.range (8*bs.length)).map fun j=>bitB bs (8*bs.length-1-j)
theorem QgP (bs : List Int):(QdK bs).length=8*bs.length:=by simp [QdK]
theorem QiE (bs : List Int) (j:Nat) (hj:j<8*bs.length):(QdK bs).take (8*bs.length-j)=(QdK bs).take (8*bs.length-(j+1))++[bitB bs j]:=by
  generalize hN:8*bs.length=N at hj
  have e:N-j=(N-(j+1))+1:=by omega
  rw [e,List.take_add_one]
  congr 1
  have h:N-(j+1)<N:=by omega
  simp only [QdK,hN,List.getElem?_map,List.getElem?_range h,Option.map_some,Option.toList_some]
  rw [show N-1-(N-(j+1))=j by omega]
def Qe8 (B g:Nat) (W W':World):Prop:=W'.heap[g]? = W.heap[g]?∧∀ k,k<B→W'.heap[k]? = W.heap[k]?
theorem Qe8.refl (B g:Nat) (W:World):Qe8 B g W W:=⟨rfl,fun _ _=>rfl⟩
theorem Qe8.trans {B g:Nat} {a b c:World} (h:Qe8 B g a b) (k:Qe8 B g b c):Qe8 B g a c:=⟨k.1.trans h.1,fun i hi=>(k.2 i hi).trans (h.2 i hi)⟩
theorem Qiq {B g:Nat} {w:World} (hg:g<w.heap.size) (hB:B≤w.heap.size) (W:World) (l:Nat) (o o':Obj) (hl:w.heap.size≤l) (h:W.heap[l]? = some o) (_:o.isCells=false) (_:o.isWalk=false):Qe8 B g W (W.putObj l o') :=
  ⟨World.putObj_heap_other (fun e=>by omega),fun k hk=>World.putObj_heap_other (fun e=>by omega)⟩
theorem QjP {B : Nat} {W W':World} {b off:Nat} (h:∀ k,k<B→W'.heap[k]? = W.heap[k]?) (hb:b<B):W'.cell? ⟨b,off,none⟩=W.cell? ⟨b,off,none⟩:=by
  unfold World.cell?
  simp only [h b hb]
set_option maxHeartbeats 2000000 in
theorem QgO (m : Nat) (hm:1≤m) (B g1:Nat) (A:Option Addr) (n c:Nat) (bs:List Int) (hbl:bs.length=n) (hn:n≤1000) (hb:Qak bs) (w:World)
    (hg:w.heap[g1]? = some (.cells #[.slice A n c] 27)) (hB:B≤w.heap.size)
    (hc:n=0∨∃ sb so,A=some ⟨sb,so,none⟩∧sb<B∧∀ i,i<n→w.cell? ⟨sb,so+i,none⟩=some (.int .u8 (nth bs i))) :
    SeqStopsK Fence.wide m Tryd.prog 99 #[.pointer (some ⟨g1,0,none⟩)] (fun x:Bool=>#[encB x]) (Qe8 B g1) (fun ys=>ys=QdK bs) (fun pre=>pre <+: QdK bs) (8*n) w:=fun l J Jx W hW hJ hJx hY h0=>by
  refine callsIn_of_wp Tryd.func99 rfl trivial ?_ rfl
  simp only [Tryd.ntmps99,List.size_toArray,List.length_cons,List.length_nil,Nat.reduceAdd,Nat.reduceSub,Array.replicate_succ,Array.replicate_zero,List.push_toArray,List.append_toArray,List.nil_append,List.cons_append]
  have hgW:W.heap[g1]? = some (.cells #[.slice A n c] 27):=(hW.block g1 (Qa6 hg)).trans hg
  have hcW:n=0∨∃ sb so,A=some ⟨sb,so,none⟩∧sb<B∧∀ i,i<n→W.cell? ⟨sb,so+i,none⟩=some (.int .u8 (nth bs i)):=by
    refine hc.imp id ?_
    rintro ⟨sb,so,h1,h2,h3⟩
    exact ⟨sb,so,h1,h2,fun i hi=>(hW.cell (by show sb<_; omega)).trans (h3 i hi)⟩
  have hc1:W.cell? ⟨g1,0,none⟩=some (.slice A n c):=QaE hgW rfl
  have qa:IntKind.i64.wrap (8*(n:Int))=8*(n:Int):=IntWalk.i64_in _ (by omega)
  have qb:IntKind.i64.wrap (8*(n:Int)-1)=8*(n:Int)-1:=IntWalk.i64_in _ (by omega)
  have HC:=Lib.hid hcW
  have HG:=Lib.hid hgW
  have HL:=Lib.hid hbl
  clear hcW hgW hc hg hbl
  gi_wp2
  gi_loopw [3] (fun i wr=>∃ k:Nat,k≤8*n∧i=.int .i64 ((k:Int)-1)∧J ((QdK bs).take (8*n-k)) wr∧Qe8 B g1 W wr) (fun i _=>(intOf i+1).toNat)
  case atStart=>exact ⟨8*n,by omega,by congr 1 <;> omega,by simpa using h0,Qe8.refl _ _ _⟩
  case round =>
    obtain ⟨k,hkn,rfl,hJs,hS⟩:=hrel
    rcases k with _ | j
    · gi_wp2
      go_end0
      exact ⟨⟨_,rfl⟩,.inl ⟨_,rfl,by rwa [List.take_of_length_le (by rw [QgP,HL.out]; omega)] at hJs⟩⟩
    · have hj:j<8*n:=by omega
      obtain ⟨sb,so,rfl,hsb,hcell⟩:=HC.out.resolve_left (by omega)
      rw [show ((j+1:Nat):Int)-1=(j:Int) by omega]
      have hc2:wr.cell? ⟨g1,0,none⟩=some (.slice (some ⟨sb,so,none⟩) n c):=QaE (hS.1.trans HG.out) rfl
      have hcx:wr.cell? ⟨sb,so+j/8,none⟩=some (.int .u8 (nth bs (j/8))):=(QjP hS.2 hsb).trans (hcell (j/8) (by omega))
      have hlen:(QdK bs).length=8*n:=by rw [QgP,HL.out]
      obtain ⟨fn,tmps,assign,body,hy,hR⟩:=hY _ (bitB bs j) wr hJs (by rw [List.length_take]; omega)
      have hT0:=QiE bs j (by rw [HL.out]; exact hj)
      rw [HL.out] at hT0
      have hT:=Lib.hid hT0
      have b1:=hb.nth (j/8)
      rw [Qib,show Qdb bs j=nth bs (j/8)/2^(j%8)%2 from rfl] at hy
      clear hT0 hlen hcell
      generalize bitB bs j=bt at *
      generalize nth bs (j/8)=v at *
      have q0:(0:Int)≤(j:Int):=by omega
      have q1:(j:Int)/8<(n:Int):=by omega
      have q2:IntKind.i64.wrap ((j:Int)/8)=(j:Int)/8:=IntWalk.i64_in _ (by omega)
      have qm:(j:Int).tmod 8=(j:Int)%8:=Int.tmod_eq_emod_of_nonneg (by omega)
      have q3:IntKind.i64.wrap ((j:Int)%8)=(j:Int)%8:=IntWalk.i64_in _ (by omega)
      have q4:(0:Int)≤(j:Int)/8:=by omega
      have q5:((j:Int)/8).toNat=j/8:=by omega
      have q6:((j:Int)%8).toNat=j%8:=by omega
      have q7:(0:Int)≤(j:Int)%8:=by omega
      have q8:(j:Int)%8<8:=by omega
      have hp:(1:Int)≤2^(j%8):=by
        have:(0:Int)<2^(j%8):=Int.pow_pos (by decide)
        omega
      have d1:0≤v/2^(j%8):=Int.ediv_nonneg b1.1 (by omega)
      have d2:v/2^(j%8)≤v:=Int.ediv_le_self _ b1.1
      have w1:IntKind.i64.wrap (v/2^(j%8))=v/2^(j%8):=IntWalk.i64_in _ (by omega)
      have w2:=Qh4 (v/2^(j%8)) (by omega)
      have hadd:(⟨sb,so,none⟩:Addr).add (j/8)=⟨sb,so+j/8,none⟩:=by unfold Addr.add; split <;> simp_all
      gi_wp2
      refine hR.mono ?_
      rintro e W3 (⟨rfl,hJ3,hk3⟩ | ⟨rfl,hJx3⟩)
      · gi_wp2
        go_roundw
        case rel=>exact ⟨j,by omega,rfl,by rw [hT.out]; exact hJ3,Qe8.trans hS hk3⟩
        case measure=>simp [intOf]
      · gi_wp2
        refine bodyPost_ret (results_none rfl _ _ _) rfl ?_
        exact ⟨⟨_,rfl⟩,.inr ⟨_,by rw [←hT.out]; exact List.take_prefix _ _,hJx3⟩⟩
end Go.Proofs.YtdoadngmgmdlbaaDoor.Field
end
section
namespace Go.Proofs.YtdoadngmgmdlbaaDoor.Field
open Go Go.RowKit
open Rely Auto
def ordL : Int:=7237005577332262213973186563042994240857116359379907606001950938285454250989
def isS (n : Int):Prop:=0≤n∧n<ordL
theorem isS_mod (n : Int):isS (n%ordL):=⟨Int.emod_nonneg _ (by decide),Int.emod_lt_of_pos _ (by decide)⟩
theorem isS_self {n : Int} (h:isS n):n%ordL=n:=Int.emod_eq_of_lt h.1 h.2
theorem QiY (a : Int) (h:isS a):∃ x0 x1 x2 x3:Int,isW x0∧isW x1∧isW x2∧isW x3∧val x0 x1 x2 x3=a∧num a=words x0 x1 x2 x3:=by
  refine ⟨a%18446744073709551616,a/18446744073709551616%18446744073709551616,a/340282366920938463463374607431768211456%18446744073709551616,a/6277101735386680763835789423207666416102355444464034512896%18446744073709551616,?_,?_,?_,?_,?_,rfl⟩
  all_goals unfold isS ordL at h
  all_goals first | (unfold isW; omega) | (unfold val; omega)
theorem Qhp (n : Int) (h:0≤n∧n<18446744073709551616):isW n:=h
theorem Qhh (a b:Int) (ha:isS a) (hb:isS b) (w:World) (tO:TypeId) (hO:w.heap[3]? = some (.cells QbQ tO)) :
    Calls Tryd.prog 63 #[num a,num b] w (Ret w (num ((a+b)%ordL))):=by
  obtain ⟨x0,x1,x2,x3,wx0,wx1,wx2,wx3,ex,eX⟩:=QiY a ha
  obtain ⟨y0,y1,y2,y3,wy0,wy1,wy2,wy3,ey,eY⟩:=QiY b hb
  obtain ⟨v0,c0,wv0,wc0,e0,r0⟩:=QdN x0 y0 0 wx0 wy0 (by decide)
  obtain ⟨v1,c1,wv1,wc1,e1,r1⟩:=QdN x1 y1 c0 wx1 wy1 wc0
  obtain ⟨v2,c2,wv2,wc2,e2,r2⟩:=QdN x2 y2 c1 wx2 wy2 wc1
  obtain ⟨v3,c3,wv3,wc3,e3,r3⟩:=QdN x3 y3 c2 wx3 wy3 wc2
  obtain ⟨u0,d0,wu0,wd0,f0,s0⟩:=QdT v0 6346243789798364141 0 wv0 (Qhp _ (by decide)) (by decide)
  obtain ⟨u1,d1,wu1,wd1,f1,s1⟩:=QdT v1 1503914060200516822 d0 wv1 (Qhp _ (by decide)) wd0
  obtain ⟨u2,d2,wu2,wd2,f2,s2⟩:=QdT v2 0 d1 wv2 QaZ wd1
  obtain ⟨u3,d3,wu3,wd3,f3,s3⟩:=QdT v3 1152921504606846976 d2 wv3 (Qhp _ (by decide)) wd2
  have hv:=QeJ v0 v1 v2 v3 wv0 wv1 wv2 wv3
  have hu:=QeJ u0 u1 u2 u3 wu0 wu1 wu2 wu3
  have hs:val v0 v1 v2 v3+115792089237316195423570985008687907853269984665640564039457584007913129639936*c3=a+b:=by unfold val at *; omega
  have ht:val u0 u1 u2 u3-115792089237316195423570985008687907853269984665640564039457584007913129639936*d3=val v0 v1 v2 v3-ordL:=by unfold val ordL at *; omega
  have h0:=ha.1; have h1:=ha.2; have h2:=hb.1; have h3:=hb.2
  have hc:c3=0:=by unfold ordL at *; omega
  rw [eX,eY]
  generalize hV:val v0 v1 v2 v3=V at hs ht hv
  generalize hU:val u0 u1 u2 u3=U at ht hu
  rcases (by omega:d3=0∨d3=1) with rfl | rfl
  · have e:num ((a+b)%ordL)=words u0 u1 u2 u3:=by
      rw [QdD _ _ _ _ wu0 wu1 wu2 wu3,hU]
      congr 1
      rw [show a+b=U+ordL by omega,Int.add_emod_right,Int.emod_eq_of_lt (by omega) (by unfold ordL at *; omega)]
    rw [e]
    exact Qnt _ _ _ _ _ _ _ _ _ _ _ _ _ _ _ _ _ _ _ _ _ _ _ r0 s0 r1 s1 r2 s2 r3 s3 w tO hO
  · have e:num ((a+b)%ordL)=words v0 v1 v2 v3:=by
      rw [QdD _ _ _ _ wv0 wv1 wv2 wv3,hV]
      congr 1
      rw [show a+b=V by omega,Int.emod_eq_of_lt (by omega) (by unfold ordL at *; omega)]
    rw [e]
    exact Qns _ _ _ _ _ _ _ _ _ _ _ _ _ _ _ _ _ _ _ _ _ _ _ r0 s0 r1 s1 r2 s2 r3 s3 w tO hO
def addb (n : Int) (b:Bool):Int:=if b then ((n+n)%ordL+1)%ordL else (n+n)%ordL
def resB (bs : List Bool):Int:=bs.foldl addb 0
theorem Qgp (bs : List Bool) (b:Bool):resB (bs++[b])=addb (resB bs) b:=by simp [resB]
theorem Qlm (n : Int) (b:Bool):isS (addb n b):=by unfold addb; split <;> exact isS_mod _
theorem QhB (bs : List Bool):isS (resB bs):=by
  rcases List.eq_nil_or_concat bs with h | ⟨l,b,h⟩
  · subst h; exact ⟨by decide,by decide⟩
  · subst h; rw [List.concat_eq_append,Qgp]; exact Qlm _ _
theorem Qll (m : Int) (b:Bool):addb (m%ordL) b=(2*m+if b then 1 else 0)%ordL:=by
  have e:(m%ordL+m%ordL)%ordL=(2*m)%ordL:=by rw [←Int.add_emod,Int.two_mul]
  unfold addb
  rw [e]
  cases b
  · simp
  · simp only [if_true]; rw [Int.emod_add_emod]
theorem Qks (bs : List Bool):resB bs=(bval bs:Int)%ordL:=by
  have key:∀ (bs:List Bool) (n:Nat),bs.foldl addb ((n:Int)%ordL)=((bs.foldl (fun n b=>2*n+if b then 1 else 0) n:Nat):Int)%ordL:=by
    intro bs
    induction bs with
    | nil=>intro n; rfl
    | cons b bs ih =>
      intro n
      rw [List.foldl_cons,List.foldl_cons,Qll,←ih]
      congr 2
      cases b <;> simp
  exact key bs 0
def wl (n : Int):List Int:=[n%18446744073709551616,n/18446744073709551616%18446744073709551616,n/340282366920938463463374607431768211456%18446744073709551616,n/6277101735386680763835789423207666416102355444464034512896%18446744073709551616]
theorem QaV (n : Int):(wl n).length=4:=rfl
theorem shrW (v : Int) (n:Nat) (h:n<64):v.fdiv (2^min (n:Int).toNat IntKind.u64.bits)=v/2^n:=by
  rw [show min ((n:Int).toNat) IntKind.u64.bits=n by show min ((n:Int).toNat) 64=n; omega]
  exact Int.fdiv_eq_ediv_of_nonneg _ (Int.le_of_lt (Int.pow_pos (by decide)))
theorem mul8 (k : Nat) (h:k<8):IntKind.i64.wrap (8*(k:Int))=((8*k:Nat):Int):=by
  rw [show (8*(k:Int))=((8*k:Nat):Int) by omega]
  exact IntWalk.i64_in _ (by omega)
theorem QiM (m : Int) (r:Nat) (hr:r<8):m%18446744073709551616/2^(8*r)%256=m/256^r%256:=by
  rcases (by omega:r=0∨r=1∨r=2∨r=3∨r=4∨r=5∨r=6∨r=7) with rfl | rfl | rfl | rfl | rfl | rfl | rfl | rfl
  all_goals
    simp only [Int.reducePow,Nat.reduceMul]
    omega
theorem QmW (n : Int) (q:Nat) (hq:q<4):nth (wl n) q=n/256^(8*q)%18446744073709551616:=by
  rcases (by omega:q=0∨q=1∨q=2∨q=3) with rfl | rfl | rfl | rfl
  · show n%_=n/1%_
    rw [Int.ediv_one]
  · rfl
  · rfl
  · rfl
theorem QlB (n : Int) (k:Nat) (hk:k<32):IntKind.u8.wrap (nth (wl n) (k/8)/2^(8*(k%8)))=Qa1 n k:=by
  rw [Qna,QmW n _ (by omega),QiM _ _ (by omega),Int.ediv_ediv_of_nonneg (Int.pow_nonneg (by decide)),←Int.pow_add,show 8*(k/8)+k%8=k by omega]
  rfl
theorem Qjq (n : Int):List.replicate 32 0=part n 0:=by unfold part; simp [List.map_const']
theorem Qjr (n : Int) (k:Nat) (hk:k<32):(part n k).set k (Qa1 n k)=part n (k+1):=by
  apply List.ext_getElem
  · simp [part]
  · intro i h1 h2
    simp only [part,List.length_map,List.length_range] at h2
    by_cases hi:i=k
    · subst hi; simp [part]
    · rw [List.getElem_set_ne (by omega)]
      simp only [part,List.getElem_map,List.getElem_range]
      by_cases h:i<k
      · rw [if_pos h,if_pos (by omega)]
      · rw [if_neg h,if_neg (by omega)]
def mulb (e n:Int) (b:Bool):Int:=if b then ((n+n)%ordL+e)%ordL else (n+n)%ordL
def mulB (e : Int) (bs:List Bool):Int:=bs.foldl (mulb e) 0
theorem Qg4 (e : Int) (bs:List Bool) (b:Bool):mulB e (bs++[b])=mulb e (mulB e bs) b:=by simp [mulB]
theorem QkG (e n:Int) (b:Bool):isS (mulb e n b):=by unfold mulb; split <;> exact isS_mod _
theorem QhO (e : Int) (bs:List Bool):isS (mulB e bs):=by
  rcases List.eq_nil_or_concat bs with h | ⟨l,b,h⟩
  · subst h; exact (show isS 0 from ⟨by decide,by decide⟩)
  · subst h; rw [List.concat_eq_append,Qg4]; exact QkG _ _ _
theorem QkJ (e : Int) (bs:List Bool):mulB e bs=(bval bs:Int)*e%ordL:=by
  have key:∀ (bs:List Bool) (n:Nat),bs.foldl (mulb e) ((n:Int)*e%ordL)=((bs.foldl (fun n b=>2*n+if b then 1 else 0) n:Nat):Int)*e%ordL:=by
    intro bs
    induction bs with
    | nil=>intro n; rfl
    | cons b bs ih =>
      intro n
      rw [List.foldl_cons,List.foldl_cons,←ih]
      congr 1
      have d:((n:Int)*e%ordL+(n:Int)*e%ordL)%ordL=(2*n)*e%ordL:=by rw [←Int.add_emod]; congr 1; grind
      unfold mulb
      rw [d]
      cases b
      · simp
      · simp only [if_true]; rw [Int.emod_add_emod]; congr 1; grind
  have h:=key bs 0
  rw [show ((0:Nat):Int)*e%ordL=0 by simp] at h
  exact h
theorem Qli (xs : List Int) (hx:xs.length=32):QdK xs=QaH xs:=by unfold QdK QaH; rw [hx]
def resN (bs : List Int):Int:=resB (QdK bs)
theorem QhA (bs : List Int):isS (resN bs):=QhB _
theorem numB_bytes {r : Int} (h:isS r):numB (Qao r)=r.toNat:=by
  unfold numB
  rw [QfS r 32 (qR _),Int.emod_eq_of_lt h.1 (Int.lt_trans h.2 (by decide))]
theorem resN_32 (xs : List Int) (hx:xs.length=32) (hb:Qak xs):resN xs=(numB xs:Int)%ordL:=by
  unfold resN
  rw [Qks,Qli xs hx,Qfi xs hb]
theorem mulAdd_val (za zb zc:List Int) (hab:Qak za) (hb:zb.length=32) (hbb:Qak zb) (hc:zc.length=32) (hcb:Qak zc) :
    (mulB (resN zb) (QaH za)+resN zc)%ordL=((numB za:Int)*numB zb+numB zc)%ordL:=by
  rw [QkJ,resN_32 zb hb hbb,resN_32 zc hc hcb,Qfi za hab,←Int.add_emod]
  rw [Int.add_emod,Int.mul_emod,Int.emod_emod,←Int.mul_emod,←Int.add_emod]
end Go.Proofs.YtdoadngmgmdlbaaDoor.Field
end
section
namespace Go.Proofs.YtdoadngmgmdlbaaDoor.Field
open Go Go.RowKit
open Rely Auto
theorem Qmo : isS 1:=⟨by decide,by decide⟩
theorem Qga {W : World} {g:Nat} {xs:List Int} {t:TypeId} (R:W.heap[g]? = some (.cells (ints .u8 xs) t)) {n:Nat} (hx:xs.length=n):∀ i,i<n→W.cell? ⟨g,0+i,none⟩=some (.int .u8 (nth xs i)):=fun i hi=>by
  rw [Nat.zero_add]
  exact QaE R (Qaw _ _ _ (by omega))
theorem QjO {w W:World} {A:Option Addr} {n:Nat} {bs:List Int} (hc:n=0∨∃ sb so,A=some ⟨sb,so,none⟩∧sb<w.heap.size∧∀ i,i<n→w.cell? ⟨sb,so+i,none⟩=some (.int .u8 (nth bs i))) (e:Ext w W) :
    n=0∨∃ sb so,A=some ⟨sb,so,none⟩∧sb<W.heap.size∧∀ i,i<n→W.cell? ⟨sb,so+i,none⟩=some (.int .u8 (nth bs i)) :=
  hc.imp id fun ⟨sb,so,h1,h2,h3⟩=>⟨sb,so,h1,qL h2 e.size,fun i hi=>(Below.cell e h2).trans (h3 i hi)⟩
theorem Qea (n : Int) (k:Nat):(part n k).length=32:=by simp [part]
theorem Qha (n : Int) (w:World) (tO:TypeId) (hO:w.heap[3]? = some (.cells QbQ tO)):Calls Tryd.prog 64 #[num n] w (Ret w (.agg (ints .u8 (Qao n)))):=by
 refine enter 21 [(0,.agg (ints .u64 (wl (n))))] Tryd.func64 rfl rfl kj rfl ?_
 refine wp_seq_k fun K2 hK2=>?_
 refine Qad ?_
 refine Qaj (ints .u64 (wl (n))) 97 1 rfl kj kj fun g3 W1 l3 e1 r3_1=>?_
 have x1:Ext w W1:=Ext.tr (Rely.Ext.refl w) e1
 have b3:w.heap.size≤g3:=qT (Rely.Ext.refl w).size l3
 refine Qaj (ints .u8 (List.replicate 32 0)) 23 2 rfl kj kj fun g4 W2 l4 e2 r4_2=>?_
 have x2:Ext w W2:=Ext.tr x1 e2
 have b4:w.heap.size≤g4:=qT x1.size l4
 refine Qag ?_
 refine hK2 _ _ ?_
 refine wp_seq_k fun K5 hK5=>?_
 refine Qad ?_
 refine Qaj (ints .u8 (List.replicate 32 0)) 23 3 rfl kj kj fun g6 W3 l6 e3 r6_3=>?_
 have x3:Ext w W3:=Ext.tr x2 e3
 have b6:w.heap.size≤g6:=qT x2.size l6
 refine Qag ?_
 refine hK5 _ _ ?_
 refine wp_seq_k fun K7 hK7=>?_
 refine wp_seq_k fun K8 hK8=>?_
 refine Qad ?_
 refine Qab (.int .i64 0) 5 rfl kj kj ?_
 refine Qag ?_
 refine hK8 _ _ ?_
 refine wp_block ?_
 have n_3_4:g3≠g4:=(Qac r3_1 l4)
 have r3_2:=(Qaa r3_1 e2)
 have n_3_6:g3≠g6:=(Qac r3_2 l6)
 have n_4_3:g4≠g3:=(Qat r3_1 l4)
 have n_4_6:g4≠g6:=(Qac r4_2 l6)
 have n_6_3:g6≠g3:=(Qat r3_2 l6)
 have n_6_4:g6≠g4:=(Qat r4_2 l6)
 have r3_3:=(Qaa r3_2 e3)
 have r4_3:=(Qaa r4_2 e3)
 refine QbB (fun (k:Nat)=>[(5,.int .i64 ((k:Nat):Int)),(1,.pointer (some ⟨g3,0,none⟩)),(2,.pointer (some ⟨g4,0,none⟩)),(3,.pointer (some ⟨g6,0,none⟩))]) (fun (k:Nat) W=>(k≤32)∧W.heap[g3]? = some (.cells (ints .u64 (wl (n))) 97)∧W.heap[g4]? = some (.cells (ints .u8 (List.replicate 32 0)) 23)∧W.heap[g6]? = some (.cells (ints .u8 (part n k)) 23)∧Ext w W) (fun (k:Nat)=>32-k) 0 ⟨rfl,rfl,rfl,rfl,trivial⟩ ⟨(by omega),r3_3,r4_3,(QaY r6_3 (Qjq n)),x3⟩ fun k X1 V1 hI=>?_
 obtain ⟨hk32,q3_1,q4_1,q6_1,xx1⟩:=hI
 refine wp_seq_k fun K9 hK9=>?_
 refine Qad ?_
 refine Qab (.bool (decide (((k:Nat):Int)<32))) 6 rfl kj kj ?_
 refine Qag ?_
 refine hK9 _ _ ?_
 refine wp_seq_k fun K10 hK10=>?_
 refine Qbk (t:=decide (((k:Nat):Int)<32)) kj (fun c11=>?_) (fun c11=>?_)
 ·skip
  have hk:k<32:=by have:=of_decide_eq_true c11; omega
  refine wp_skip ?_
  refine hK10 _ _ ?_
  refine wp_seq_k fun K12 hK12=>?_
  refine wp_block ?_
  refine wp_seq_k fun K13 hK13=>?_
  refine Qad ?_
  refine Qab (.int .i64 ((k:Nat):Int)) 7 rfl kj kj ?_
  refine Qab (.int .i64 ((k:Nat):Int)) 4 rfl kj kj ?_
  refine Qag ?_
  refine hK13 _ _ ?_
  refine Qad ?_
  refine Qab (.int .i64 ((k:Nat):Int)) 8 rfl kj kj ?_
  refine Qab (.int .i64 ((k:Nat):Int)) 9 rfl kj kj ?_
  refine Qab (.int .i64 (((k/8:Nat):Int))) 10 rfl kj (Qax (u:=.int .i64 (IntKind.i64.wrap (Int.tdiv (((k:Nat):Int)) (8)))) kj (congrArg (Value.int .i64) (Qm8 k 8 (by omega)))) ?_
  refine Qab (.pointer (some ⟨g3,k/8,none⟩)) 11 rfl kj (Qbu _ _ _ .i64 (k/8) _ 4 46 rfl kj kj kj kj (by omega)) ?_
  refine Qab (.int .u64 (nth (wl (n)) (k/8))) 12 rfl kj (Qan 46 _ g3 (k/8) 97 _ (.int .u64 (nth (wl (n)) (k/8))) _ q3_1 rfl kj (Qaw _ _ _ (Nat.lt_of_lt_of_eq (by omega) (QaV _).symm)) kj) ?_
  refine Qab (.int .i64 ((k:Nat):Int)) 13 rfl kj kj ?_
  refine Qab (.int .i64 (((k%8:Nat):Int))) 14 rfl kj (Qax (u:=.int .i64 (Int.tmod (((k:Nat):Int)) (8))) kj (congrArg (Value.int .i64) (QeU k 8))) ?_
  refine Qab (.int .i64 (((8*(k%8):Nat):Int))) 15 rfl kj (Qax (u:=.int .i64 (IntKind.i64.wrap (8*((k%8:Nat):Int)))) kj (congrArg (Value.int .i64) (mul8 _ (by omega)))) ?_
  refine Qab (.int .u64 (nth (wl n) (k/8)/2^(8*(k%8)))) 16 rfl kj (Qbv .shr _ _ _ _ .u64 .i64 _ _ _ rfl kj kj (QdL _ _ _ _ _ _ (by omega) (shrW _ _ (by omega)))) ?_
  refine Qab (.int .u8 (Qa1 n k)) 17 rfl kj (Qax (u:=.int .u8 (IntKind.u8.wrap (nth (wl n) (k/8)/2^(8*(k%8))))) kj (congrArg (Value.int .u8) (QlB n k hk))) ?_
  refine Qab (.pointer (some ⟨g6,k,none⟩)) 18 rfl kj (Qbu _ _ _ .i64 (k) _ 32 5 rfl kj kj kj kj hk) ?_
  refine Qal g6 _ (ints .u8 ((part n k).set k (Qa1 n k))) 23 q6_1 rfl kj (Qa5 5 _ _ g6 k 23 _ _ q6_1 rfl kj kj kj (Nat.lt_of_lt_of_eq hk (Qea _ _).symm)) fun W5 p5 r6_5=>?_
  have x5:Ext w W5:=Puts.ext p5 xx1 b6
  refine Qag ?_
  refine hK12 _ _ ?_
  refine Qad ?_
  refine Qab (.int .i64 (((k+1:Nat):Int))) 19 rfl kj (Qax (u:=.int .i64 (IntKind.i64.wrap (((k:Nat):Int)+1))) kj (congrArg (Value.int .i64) (QkQ k (by omega)))) ?_
  refine Qab (.int .i64 (((k+1:Nat):Int))) 5 rfl kj kj ?_
  refine Qag ?_
  have r3_5:=(Puts.row p5 q3_1 n_3_6)
  have r4_5:=(Puts.row p5 q4_1 n_4_6)
  repeat (first | with_reducible refine goX1 ?_ | with_reducible refine goX2 ?_ | with_reducible refine goX3 ?_)
  exact Qb3 (k+1) ⟨rfl,rfl,rfl,rfl,trivial⟩ ⟨(by omega),r3_5,r4_5,(QaY r6_5 (Qjr n k hk)),x5⟩ (by omega)
 ·skip
  have hk:k=32:=by have:=of_decide_eq_false c11; omega
  subst hk
  refine wp_exit ?_
  refine hK7 _ _ ?_
  refine wp_seq_k fun K14 hK14=>?_
  refine Qad ?_
  refine Qab (.agg (ints .u8 (part n 32))) 20 rfl kj (Qae 23 _ g6 23 _ _ q6_1 rfl kj kj (isz (n:=32) kj ((Qaf _ _).trans (Qea _ _)))) ?_
  refine Qal g4 _ (ints .u8 (part n 32)) 23 q4_1 rfl kj (Qai 23 _ _ g4 23 _ _ q4_1 rfl kj kj (isz (n:=32) kj ((Qaf _ _).trans (Qea _ _))) (eqsz (n:=32) ((Qaf _ _).trans zlen) ((Qaf _ _).trans (Qea _ _))) (ints_one _ _)) fun W5 p5 r4_5=>?_
  have x5:Ext w W5:=Puts.ext p5 xx1 b4
  refine Qag ?_
  refine hK14 _ _ ?_
  refine wp_ret ?_
  exact (show bodyPost _ _ _ .ret _ _ from ret1 (.agg (ints .u8 (part n 32))) rfl (Qa9 g4 23 _ r4_5 kj kj (isz (n:=32) kj ((Qaf _ _).trans (Qea _ _)))) ⟨rfl,x5⟩)
theorem Qhy (A : Option Addr) (n c:Nat) (w:World):Calls Tryd.prog 87 #[.slice A n c] w fun e w'=>∃ v,e=.returned v∧Ext w w'∧∃ g1,w.heap.size≤g1∧v=.func (.func 99) #[] #[.pointer (some ⟨g1,0,none⟩)]∧w'.heap[g1]? = some (.cells #[.slice A n c] 27):=by
  have hmf:∀ (fn:Fn) (first cap:Array Value) (w:World),(Instr.makeFunc fn first cap).run Tryd.prog w=.ok (.func fn first cap) w:=fun _ _ _ _=>rfl
  go_enter Tryd.func87,Tryd.ntmps87
  go_wp2_with fail
  exact bodyPost_ret (results_tmp rfl _ _ _) rfl ⟨_,rfl,Qa8 _ _,w.heap.size,qR _,rfl,heap_alloc_new _ _⟩
set_option maxHeartbeats 8000000 in
theorem QeC (A : Option Addr) (n c:Nat) (bs:List Int) (hbl:bs.length=n) (hn:n≤1000) (hb:Qak bs) (w:World) (tO:TypeId) (hO:w.heap[3]? = some (.cells QbQ tO))
    (hc:n=0∨∃ sb so,A=some ⟨sb,so,none⟩∧sb<w.heap.size∧∀ i,i<n→w.cell? ⟨sb,so+i,none⟩=some (.int .u8 (nth bs i))) :
    Calls Tryd.prog 62 #[.slice A n c] w (Ret w (num (resN bs))):=by
  refine QjI 17 [(0,.slice A n c)] Tryd.func62 rfl rfl kj rfl ?_
  refine wp_seq_k fun K2 hK2=>?_
  refine Qad ?_
  refine Qaj (ints .u64 ([0,0,0,0])) 97 2 rfl kj kj fun g3 W1 l3 e1 r3_1=>?_
  have x1:Ext w W1:=Ext.tr (Rely.Ext.refl w) e1
  have b3:w.heap.size≤g3:=qT (Rely.Ext.refl w).size l3
  refine Qag ?_
  refine hK2 _ _ ?_
  refine wp_seq_k fun K4 hK4=>?_
  refine Qad ?_
  refine Qaj (ints .u64 ([0,0,0,0])) 97 3 rfl kj kj fun g5 W2 l5 e2 r5_2=>?_
  have x2:Ext w W2:=Ext.tr x1 e2
  have b5:w.heap.size≤g5:=qT x1.size l5
  refine Qag ?_
  refine hK4 _ _ ?_
  refine wp_seq_k fun K6 hK6=>?_
  refine wp_seq_k fun K7 hK7=>?_
  refine Qad ?_
  refine Qab (.slice A n c) 5 rfl kj kj ?_
  refine Qcd (fun v W'=>Ext W2 W'∧∃ g1,W2.heap.size≤g1∧v=.func (.func 99) #[] #[.pointer (some ⟨g1,0,none⟩)]∧W'.heap[g1]? = some (.cells #[.slice A n c] 27)) 87 #[.slice A n c] 6 rfl kj kj (Qhy A n c _) fun v W3 h=>?_
  obtain ⟨e3,g1,lk,rfl,r8_3⟩:=h
  have x3:Ext w W3:=Ext.tr x2 e3
  refine Qag ?_
  refine hK7 _ _ ?_
  refine wp_block ?_
  have r5_3:=(Qaa r5_2 e3)
  have r3_3:=(Qaa (Qaa r3_1 e2) e3)
  have n_ry0_ro:g3≠g5:=(Qac r3_1 l5)
  have n_rk_ro:g1≠g5:=(Qat r5_2 lk)
  refine Qeq (gf:=99) (lb:=#[.pointer (some ⟨g1,0,none⟩)]) (enc:=encB) kj (enters_of Tryd.func99 kj rfl) (QgO _ (by omega) w.heap.size g1 A n c bs hbl hn hb W3 r8_3 x3.size (hc.imp id (fun ⟨sb,so,h1,h2,h3⟩=>⟨sb,so,h1,h2,fun i hi=>(Below.cell x3 h2).trans (h3 i hi)⟩))) (fun h k=>Qe8.trans h k) (Qiq (Qa6 r8_3) x3.size) (Below.refl _ _)
      (fun pre W=>(W.heap[g5]? = some (.cells (ints .u64 (wl (resB pre))) 97)∧W.heap[g3]? = some (.cells (ints .u64 ([0,0,0,0])) 97)∧W.heap[g1]? = some (.cells (#[.slice A n c]) 27))∧Ext w W)
      (fun _ _ _=>False) (OwnFrom.and (Own.from (fun s A B row hs hg hr=>⟨Qbg hs.1 hg hr,Qbg hs.2.1 hg hr,Qbg hs.2.2 hg hr⟩) _) (ownFrom_below (qR _) x3.size)) (fun _ _ _ _ _ h _ _=>h) ⟨⟨(QaY r5_3 (show [0,0,0,0]=wl (resB []) from rfl)),r3_3,r8_3⟩,x3⟩ (fun x=>[(4,encB x),(7,encB x)]) (fun l x W K hK=>?_) (fun l pre bt W hI hp=>?_) (fun D ys W lD hS hI rD=>?_) (fun _ _ _ _ _ _ h _=>h.elim)
  · refine QaD ?_
    refine QaW (encB x) 4 rfl (Qau l 1 _) rfl kj kj ?_
    refine Qcj ?_
    exact hK
  · obtain ⟨⟨ro,ry0,rk⟩,xx⟩:=hI
    have hO2:=Qaa hO xx
    have hS0:=Qgp pre bt
    have hL:=QhB pre
    generalize resB pre=s at hS0 hL ro
    cases bt
    · have cs:=fun W tO hO=>Qhh s s hL hL W tO hO
      have hn0:=isS_mod (s+s)
      obtain ⟨n0,hn⟩:∃ n0,n0=(s+s)%ordL:=⟨_,rfl⟩
      rw [←hn] at cs hn0
      have hS:resB (pre++[false])=n0:=by
        rw [hS0]
        simp only [addb,Bool.false_eq_true,if_false,hn]
      have ls:=b5
      refine wpIn_block ?_
      refine wpIn_seq_k fun K105 hK105=>?_
      refine QaD ?_
      refine QaW (.agg (ints .u64 (wl (s)))) 8 rfl (Qau l 1 _) rfl kj (Qae 97 _ g5 97 _ _ ro rfl kj kj (isz (n:=4) kj ((Qaf _ _).trans (QaV _)))) ?_
      refine QaW (.agg (ints .u64 (wl (s)))) 9 rfl (Qau l 1 _) rfl kj (Qae 97 _ g5 97 _ _ ro rfl kj kj (isz (n:=4) kj ((Qaf _ _).trans (QaV _)))) ?_
      refine QcW (.agg (ints .u64 (wl (n0)))) 63 #[.agg (ints .u64 (wl (s))),.agg (ints .u64 (wl (s)))] 10 rfl (Qau l 1 _) rfl kj kj (cs _ tO hO2) fun W1 e1=>?_
      have x1:Ext w W1:=Ext.tr xx e1
      have r102_1:=(Qaa ro e1)
      refine Qcw g5 _ (ints .u64 (wl (n0))) 97 r102_1 rfl (Qau l 1 _) rfl kj (Qai 97 _ _ g5 97 _ _ r102_1 rfl kj kj (isz (n:=4) kj ((Qaf _ _).trans (QaV _))) (eqsz (n:=4) ((Qaf _ _).trans (QaV _)) ((Qaf _ _).trans (QaV _))) (ints_one _ _)) fun W2 p2 r102_2=>?_
      have x2:Ext w W2:=Puts.ext p2 x1 ls
      refine Qcj ?_
      refine hK105 _ _ ?_
      refine wpIn_seq_k fun K106 hK106=>?_
      refine QaD ?_
      refine QaW (.int .i64 0) 11 rfl (Qau l 1 _) rfl kj kj ?_
      refine QaW (.bool false) 12 rfl (Qau l 1 _) rfl kj kj ?_
      refine Qcj ?_
      refine hK106 _ _ ?_
      refine QcV kj ?_
      refine wpIn_skip ?_
      have r103_2:=(Puts.row p2 (Qaa ry0 e1) n_ry0_ro)
      have r104_2:=(Puts.row p2 (Qaa rk e1) n_rk_ro)
      exact ⟨((Qb2 e1).trans (QbF p2 r102_1)),⟨r104_2.trans rk.symm,fun k hk=>(x2.block k hk).trans (xx.block k hk).symm⟩,⟨by rw [hS]; exact r102_2,r103_2,r104_2⟩,x2⟩
    · have cs:=fun W tO hO=>Qhh s s hL hL W tO hO
      have hn0:=isS_mod (s+s)
      obtain ⟨n0,hn⟩:∃ n0,n0=(s+s)%ordL:=⟨_,rfl⟩
      rw [←hn] at cs hn0
      have ct:=fun W tO hO=>Qhh n0 (1) hn0 Qmo W tO hO
      obtain ⟨m0,hm⟩:∃ m0,m0=(n0+1)%ordL:=⟨_,rfl⟩
      rw [←hm] at ct
      have hS:resB (pre++[true])=m0:=by
        rw [hS0]
        simp only [addb,if_true,hm,hn]
      have ls:=b5
      refine wpIn_block ?_
      refine wpIn_seq_k fun K105 hK105=>?_
      refine QaD ?_
      refine QaW (.agg (ints .u64 (wl (s)))) 8 rfl (Qau l 1 _) rfl kj (Qae 97 _ g5 97 _ _ ro rfl kj kj (isz (n:=4) kj ((Qaf _ _).trans (QaV _)))) ?_
      refine QaW (.agg (ints .u64 (wl (s)))) 9 rfl (Qau l 1 _) rfl kj (Qae 97 _ g5 97 _ _ ro rfl kj kj (isz (n:=4) kj ((Qaf _ _).trans (QaV _)))) ?_
      refine QcW (.agg (ints .u64 (wl (n0)))) 63 #[.agg (ints .u64 (wl (s))),.agg (ints .u64 (wl (s)))] 10 rfl (Qau l 1 _) rfl kj kj (cs _ tO hO2) fun W1 e1=>?_
      have x1:Ext w W1:=Ext.tr xx e1
      have r102_1:=(Qaa ro e1)
      refine Qcw g5 _ (ints .u64 (wl (n0))) 97 r102_1 rfl (Qau l 1 _) rfl kj (Qai 97 _ _ g5 97 _ _ r102_1 rfl kj kj (isz (n:=4) kj ((Qaf _ _).trans (QaV _))) (eqsz (n:=4) ((Qaf _ _).trans (QaV _)) ((Qaf _ _).trans (QaV _))) (ints_one _ _)) fun W2 p2 r102_2=>?_
      have x2:Ext w W2:=Puts.ext p2 x1 ls
      refine Qcj ?_
      refine hK105 _ _ ?_
      refine wpIn_seq_k fun K106 hK106=>?_
      refine QaD ?_
      refine QaW (.int .i64 1) 11 rfl (Qau l 1 _) rfl kj kj ?_
      refine QaW (.bool true) 12 rfl (Qau l 1 _) rfl kj kj ?_
      refine Qcj ?_
      refine hK106 _ _ ?_
      refine Qdl kj ?_
      refine QaD ?_
      refine QaW (.agg (ints .u64 (wl (n0)))) 13 rfl (Qau l 1 _) rfl kj (Qae 97 _ g5 97 _ _ r102_2 rfl kj kj (isz (n:=4) kj ((Qaf _ _).trans (QaV _)))) ?_
      refine QaW (.agg (ints .u64 (wl (1)))) 14 rfl (Qau l 1 _) rfl kj kj ?_
      have r101_2:=(Puts.row p2 (Qaa hO2 e1) (Nat.ne_of_lt (qL (Qa6 hO) ls)))
      refine QcW (.agg (ints .u64 (wl (m0)))) 63 #[.agg (ints .u64 (wl (n0))),.agg (ints .u64 (wl (1)))] 15 rfl (Qau l 1 _) rfl kj kj (ct _ tO r101_2) fun W3 e3=>?_
      have x3:Ext w W3:=Ext.tr x2 e3
      have r102_3:=(Qaa r102_2 e3)
      refine Qcw g5 _ (ints .u64 (wl (m0))) 97 r102_3 rfl (Qau l 1 _) rfl kj (Qai 97 _ _ g5 97 _ _ r102_3 rfl kj kj (isz (n:=4) kj ((Qaf _ _).trans (QaV _))) (eqsz (n:=4) ((Qaf _ _).trans (QaV _)) ((Qaf _ _).trans (QaV _))) (ints_one _ _)) fun W4 p4 r102_4=>?_
      have x4:Ext w W4:=Puts.ext p4 x3 ls
      refine Qcj ?_
      have r103_4:=(Puts.row p4 (Qaa (Puts.row p2 (Qaa ry0 e1) n_ry0_ro) e3) n_ry0_ro)
      have r104_4:=(Puts.row p4 (Qaa (Puts.row p2 (Qaa rk e1) n_rk_ro) e3) n_rk_ro)
      exact ⟨((((Qb2 e1).trans (QbF p2 r102_1)).trans (Qb2 e3)).trans (QbF p4 r102_3)),⟨r104_4.trans rk.symm,fun k hk=>(x4.block k hk).trans (xx.block k hk).symm⟩,⟨by rw [hS]; exact r102_4,r103_4,r104_4⟩,x4⟩
  obtain ⟨⟨ro,ry0,rk⟩,xx⟩:=hI
  subst hS
  have bD:w.heap.size≤D:=qT x3.size lD
  refine hK6 _ _ ?_
  refine wp_seq_k fun K10 hK10=>?_
  refine Qad ?_
  refine Qab (.agg (ints .u64 (wl (resB (QdK bs))))) 16 rfl kj (Qae 97 _ g5 97 _ _ ro rfl kj kj (isz (n:=4) kj ((Qaf _ _).trans (QaV _)))) ?_
  refine Qal g3 _ (ints .u64 (wl (resB (QdK bs)))) 97 ry0 rfl kj (Qai 97 _ _ g3 97 _ _ ry0 rfl kj kj (isz (n:=4) kj ((Qaf _ _).trans (QaV _))) (eqsz (n:=4) kj ((Qaf _ _).trans (QaV _))) (ints_one _ _)) fun W5 p5 r3_5=>?_
  have x5:Ext w W5:=Puts.ext p5 xx b3
  refine Qag ?_
  refine hK10 _ _ ?_
  refine wp_ret ?_
  have r9_5:=(Puts.row p5 rD (Qhn ry0 rD))
  exact (show bodyPostM _ _ _ _ _ .ret _ _ from QlO (.agg (ints .u64 (wl (resB (QdK bs))))) rfl r9_5 (Qa9 g3 97 _ (QfG r3_5 r9_5 _) kj kj (isz (n:=4) kj ((Qaf _ _).trans (QaV _)))) ⟨rfl,QfH x5 bD r9_5 _⟩)
end Go.Proofs.YtdoadngmgmdlbaaDoor.Field
end
section
namespace Go.Proofs.YtdoadngmgmdlbaaDoor.Field
open Go Go.RowKit
open Rely Auto
theorem reduce_ok (A : Option Addr) (n c:Nat) (bs:List Int) (hbl:bs.length=n) (hn:n≤64) (hb:Qak bs) (w:World) (tO:TypeId) (hO:w.heap[3]? = some (.cells QbQ tO))
    (hc:n=0∨∃ sb so,A=some ⟨sb,so,none⟩∧sb<w.heap.size∧∀ i,i<n→w.cell? ⟨sb,so+i,none⟩=some (.int .u8 (nth bs i))) :
    Calls Tryd.prog 61 #[.slice A n c] w (Ret w (.tuple #[.agg (ints .u8 (Qao (resN bs))),.bool true])):=by
  refine enter 11 [(0,.slice A n c)] Tryd.func61 rfl rfl kj rfl ?_
  refine wp_seq_k fun K2 hK2=>?_
  refine Qad ?_
  refine Qaj (ints .u8 (List.replicate 32 0)) 23 2 rfl kj kj fun g3 W1 l3 e1 r3_1=>?_
  have x1:Ext w W1:=Ext.tr (Rely.Ext.refl w) e1
  have b3:w.heap.size≤g3:=qT (Rely.Ext.refl w).size l3
  refine Qab (.bool false) 3 rfl kj kj ?_
  refine Qag ?_
  refine hK2 _ _ ?_
  refine wp_seq_k fun K4 hK4=>?_
  refine wp_seq_k fun K5 hK5=>?_
  refine Qad ?_
  refine Qab (.slice A n c) 4 rfl kj kj ?_
  refine Qab (.int .i64 ((n:Nat):Int)) 5 rfl kj kj ?_
  refine Qab (.bool false) 6 rfl kj (Qax (u:=.bool (decide (((n:Nat):Int)>64))) kj (congrArg Value.bool (decide_eq_false (by omega)))) ?_
  refine Qag ?_
  refine hK5 _ _ ?_
  refine cond_false kj ?_
  refine wp_skip ?_
  refine hK4 _ _ ?_
  refine wp_seq_k fun K6 hK6=>?_
  refine Qad ?_
  refine Qab (.slice A n c) 8 rfl kj kj ?_
  have r1_1:=(Qaa hO e1)
  refine Qar (.agg (ints .u64 (wl (resN bs)))) 62 #[.slice A n c] 9 rfl kj kj (QeC A n c bs hbl (by omega) hb _ tO r1_1 (QjO hc x1)) fun W2 e2=>?_
  have x2:Ext w W2:=Ext.tr x1 e2
  have r1_2:=(Qaa r1_1 e2)
  refine Qar (.agg (ints .u8 (Qao (resN bs)))) 64 #[.agg (ints .u64 (wl (resN bs)))] 10 rfl kj kj (Qha _ _ tO r1_2) fun W3 e3=>?_
  have x3:Ext w W3:=Ext.tr x2 e3
  have r3_3:=(Qaa (Qaa r3_1 e2) e3)
  refine Qal g3 _ (ints .u8 (Qao (resN bs))) 23 r3_3 rfl kj (Qai 23 _ _ g3 23 _ _ r3_3 rfl kj kj (isz (n:=32) kj ((Qaf _ _).trans (bytes_len _))) (eqsz (n:=32) ((Qaf _ _).trans zlen) ((Qaf _ _).trans (bytes_len _))) (ints_one _ _)) fun W4 p4 r3_4=>?_
  have x4:Ext w W4:=Puts.ext p4 x3 b3
  refine Qab (.bool true) 3 rfl kj kj ?_
  refine Qag ?_
  refine hK6 _ _ ?_
  refine wp_ret ?_
  exact (show bodyPost _ _ _ .ret _ _ from ret2 (.agg (ints .u8 (Qao (resN bs)))) (.bool true) rfl (Qa9 g3 23 _ r3_4 kj kj (isz (n:=32) kj ((Qaf _ _).trans (bytes_len _)))) (Qb6 kj) ⟨rfl,x4⟩)
theorem residueBC (xs : List Int) (hx:xs.length=32) (hb:Qak xs) (w:World) (tO:TypeId) (hO:w.heap[3]? = some (.cells QbQ tO)):Calls Tryd.prog 33 #[.agg (ints .u8 xs)] w (Ret w (.bool (decide (Qao (resN xs)=xs)))):=by
  refine enter 8 [(0,.agg (ints .u8 (xs)))] Tryd.func33 rfl rfl kj rfl ?_
  refine wp_seq_k fun K2 hK2=>?_
  refine Qad ?_
  refine Qaj (ints .u8 (xs)) 23 1 rfl kj kj fun g3 W1 l3 e1 r3_1=>?_
  have x1:Ext w W1:=Ext.tr (Rely.Ext.refl w) e1
  have b3:w.heap.size≤g3:=qT (Rely.Ext.refl w).size l3
  refine Qab (.bool false) 2 rfl kj kj ?_
  refine Qag ?_
  refine hK2 _ _ ?_
  refine wp_seq_k fun K4 hK4=>?_
  refine QaB 5 [⟨none,[(1,none)]⟩,⟨none,[(3,some 0)]⟩,⟨none,[(4,some 1)]⟩,⟨none,[(1,none)]⟩,⟨none,[(5,some 2),(6,some 3)]⟩] kj kj fun F hF=>?_
  refine Qav (.slice (some ⟨g3,0,none⟩) 32 32) kj kj (fun W=>kj) ?_
  have r1_1:=(Qaa hO e1)
  refine Qaq (.agg (ints .u64 (wl (resN xs)))) 62 #[.slice (some ⟨g3,0,none⟩) 32 32] kj kj (fun W=>kj) (fun W hR=>QeC _ _ _ xs hx (by omega) hb W tO (Qaa (Qaa r1_1 (Qah _)) hR) (.inr ⟨g3,0,rfl,Qa6 (Qaa (Qaa r3_1 (Qah _)) hR),Qga (Qaa (Qaa r3_1 (Qah _)) hR) hx⟩)) ?_
  refine Qaq (.agg (ints .u8 (Qao (resN xs)))) 64 #[.agg (ints .u64 (wl (resN xs)))] kj kj (fun W=>kj) (fun W hR=>Qha _ W tO (Qaa (Qaa r1_1 (Qah _)) hR)) ?_
  refine Qam (.agg (ints .u8 (xs))) kj kj (fun W hR=>(Qae 23 _ g3 23 _ _ (Qaa (Qaa r3_1 (Qah _)) hR) rfl kj kj (isz (n:=32) kj ((Qaf _ _).trans hx)))) ?_
  refine Qav (.bool (decide (Qao (resN xs)=xs))) kj kj (fun W=>(Qcz 23 _ _ _ _ _ (.bool (decide (Qao (resN xs)=xs))) rfl kj kj kj (key_eql (Qao (resN xs)) (xs) (decide (Qao (resN xs)=xs)) (bytes_len _) hx rfl _))) ?_
  refine Qa3 (hF _ kj fun W2 e2=>?_)
  simp only [ups,up,Kn.val,List.take_succ_cons,List.take_zero,List.drop_succ_cons,List.drop_zero,List.nil_append,List.cons_append]
  clear hF
  have x2:Ext w W2:=Ext.tr x1 e2
  refine Qab (.bool (decide (Qao (resN xs)=xs))) 2 rfl kj kj ?_
  refine Qag ?_
  refine hK4 _ _ ?_
  refine wp_ret ?_
  exact (show bodyPost _ _ _ .ret _ _ from ret1 (.bool (decide (Qao (resN xs)=xs))) rfl (Qb6 kj) ⟨rfl,x2⟩)
set_option maxHeartbeats 8000000 in
theorem mulAddC (za zb zc:List Int) (ha:za.length=32) (hab:Qak za) (hb:zb.length=32) (hbb:Qak zb) (hc:zc.length=32) (hcb:Qak zc) (w:World) (tO:TypeId) (hO:w.heap[3]? = some (.cells QbQ tO)):Calls Tryd.prog 30 #[.agg (ints .u8 za),.agg (ints .u8 zb),.agg (ints .u8 zc)] w (Ret w (.agg (ints .u8 (Qao ((mulB (resN zb) (QaH za)+resN zc)%ordL))))):=by
  refine QjI 28 [(0,.agg (ints .u8 (za))),(1,.agg (ints .u8 (zb))),(2,.agg (ints .u8 (zc)))] Tryd.func30 rfl rfl kj rfl ?_
  refine wp_seq_k fun K2 hK2=>?_
  refine Qad ?_
  refine Qaj (ints .u8 (za)) 23 3 rfl kj kj fun g3 W1 l3 e1 r3_1=>?_
  have x1:Ext w W1:=Ext.tr (Rely.Ext.refl w) e1
  have b3:w.heap.size≤g3:=qT (Rely.Ext.refl w).size l3
  refine Qaj (ints .u8 (zb)) 23 4 rfl kj kj fun g4 W2 l4 e2 r4_2=>?_
  have x2:Ext w W2:=Ext.tr x1 e2
  have b4:w.heap.size≤g4:=qT x1.size l4
  refine Qaj (ints .u8 (zc)) 23 5 rfl kj kj fun g5 W3 l5 e3 r5_3=>?_
  have x3:Ext w W3:=Ext.tr x2 e3
  have b5:w.heap.size≤g5:=qT x2.size l5
  refine Qaj (ints .u8 (List.replicate 32 0)) 23 6 rfl kj kj fun g6 W4 l6 e4 r6_4=>?_
  have x4:Ext w W4:=Ext.tr x3 e4
  have b6:w.heap.size≤g6:=qT x3.size l6
  refine Qag ?_
  refine hK2 _ _ ?_
  refine wp_seq_k fun K7 hK7=>?_
  refine Qad ?_
  refine Qab (.slice (some ⟨g4,0,none⟩) 32 32) 10 rfl kj kj ?_
  have r1_4:=(Qaa (Qaa (Qaa (Qaa hO e1) e2) e3) e4)
  have r4_4:=(Qaa (Qaa r4_2 e3) e4)
  refine Qar (.agg (ints .u64 (wl (resN zb)))) 62 #[.slice (some ⟨g4,0,none⟩) 32 32] 11 rfl kj kj (QeC _ _ _ zb hb (by omega) hbb _ tO r1_4 (.inr ⟨g4,0,rfl,Qa6 r4_4,Qga r4_4 hb⟩)) fun W5 e5=>?_
  have x5:Ext w W5:=Ext.tr x4 e5
  refine Qaj (ints .u64 ([0,0,0,0])) 97 7 rfl kj kj fun g8 W6 l8 e6 r8_6=>?_
  have x6:Ext w W6:=Ext.tr x5 e6
  have b8:w.heap.size≤g8:=qT x5.size l8
  refine Qal g8 _ (ints .u64 (wl (resN zb))) 97 r8_6 rfl kj (Qai 97 _ _ g8 97 _ _ r8_6 rfl kj kj (isz (n:=4) kj ((Qaf _ _).trans (QaV _))) (eqsz (n:=4) kj ((Qaf _ _).trans (QaV _))) (ints_one _ _)) fun W7 p7 r8_7=>?_
  have x7:Ext w W7:=Puts.ext p7 x6 b8
  refine Qag ?_
  refine hK7 _ _ ?_
  refine wp_seq_k fun K9 hK9=>?_
  refine Qad ?_
  refine Qaj (ints .u64 ([0,0,0,0])) 97 8 rfl kj kj fun g10 W8 l10 e8 r10_8=>?_
  have x8:Ext w W8:=Ext.tr x7 e8
  have b10:w.heap.size≤g10:=qT x7.size l10
  refine Qag ?_
  refine hK9 _ _ ?_
  refine wp_seq_k fun K11 hK11=>?_
  refine wp_seq_k fun K12 hK12=>?_
  refine Qad ?_
  have r3_5:=(Qaa (Qaa (Qaa (Qaa r3_1 e2) e3) e4) e5)
  have r3_8:=(Qaa (Puts.row p7 (Qaa (Qaa (Qaa (Qaa (Qaa r3_1 e2) e3) e4) e5) e6) (Qac r3_5 l8)) e8)
  refine Qab (.agg (ints .u8 (za))) 12 rfl kj (Qae 23 _ g3 23 _ _ r3_8 rfl kj kj (isz (n:=32) kj ((Qaf _ _).trans ha))) ?_
  refine Qcd (fun v W'=>Ext W8 W'∧∃ kb,W8.heap.size≤kb∧v=.func (.func 82) #[] #[.pointer (some ⟨kb,0,none⟩)]∧W'.heap[kb]? = some (.cells (ints .u8 za) 23)) 46 #[.agg (ints .u8 za)] 13 rfl kj kj (Qfz _ _) fun v W9 h=>?_
  obtain ⟨e9,kb,lk,rfl,r13_9⟩:=h
  have x9:Ext w W9:=Ext.tr x8 e9
  refine Qag ?_
  refine hK12 _ _ ?_
  refine wp_block ?_
  have r10_9:=(Qaa r10_8 e9)
  have r8_9:=(Qaa (Qaa r8_7 e8) e9)
  have r5_5:=(Qaa (Qaa r5_3 e4) e5)
  have r5_9:=(Qaa (Qaa (Puts.row p7 (Qaa (Qaa (Qaa r5_3 e4) e5) e6) (Qac r5_5 l8)) e8) e9)
  have r6_5:=(Qaa r6_4 e5)
  have r6_9:=(Qaa (Qaa (Puts.row p7 (Qaa (Qaa r6_4 e5) e6) (Qac r6_5 l8)) e8) e9)
  have n_ry0_ro:g8≠g10:=(Qac r8_7 l10)
  have r5_7:=(Puts.row p7 (Qaa r5_5 e6) (Qac r5_5 l8))
  have n_ry1_ro:g5≠g10:=(Qac r5_7 l10)
  have r6_7:=(Puts.row p7 (Qaa r6_5 e6) (Qac r6_5 l8))
  have n_ry2_ro:g6≠g10:=(Qac r6_7 l10)
  have n_rk_ro:kb≠g10:=(Qat r10_8 lk)
  refine Qeq (gf:=82) (lb:=#[.pointer (some ⟨kb,0,none⟩)]) (enc:=encB) kj (enters_of Tryd.func82 kj rfl) (Qe5 _ (by omega) kb za ha hab W9 r13_9) (fun h k=>Same.trans' h k) (Qgl (Qa6 r13_9)) (Below.refl _ _)
      (fun pre W=>(W.heap[g10]? = some (.cells (ints .u64 (wl (mulB (resN zb) pre))) 97)∧W.heap[g8]? = some (.cells (ints .u64 (wl (resN zb))) 97)∧W.heap[g5]? = some (.cells (ints .u8 (zc)) 23)∧W.heap[g6]? = some (.cells (ints .u8 (List.replicate 32 0)) 23)∧W.heap[kb]? = some (.cells (ints .u8 (za)) 23))∧Ext w W)
      (fun _ _ _=>False) (OwnFrom.and (Own.from (fun s A B row hs hg hr=>⟨Qbg hs.1 hg hr,Qbg hs.2.1 hg hr,Qbg hs.2.2.1 hg hr,Qbg hs.2.2.2.1 hg hr,Qbg hs.2.2.2.2 hg hr⟩) _) (ownFrom_below (qR _) x9.size)) (fun _ _ _ _ _ h _ _=>h) ⟨⟨(QaY r10_9 (show [0,0,0,0]=wl (mulB (resN zb) []) from rfl)),r8_9,r5_9,r6_9,r13_9⟩,x9⟩ (fun x=>[(9,encB x),(14,encB x)]) (fun l x W K hK=>?_) (fun l pre bt W hI hp=>?_) (fun D ys W lD hS hI rD=>?_) (fun _ _ _ _ _ _ h _=>h.elim)
  · refine QaD ?_
    refine QaW (encB x) 9 rfl (Qau l 1 _) rfl kj kj ?_
    refine Qcj ?_
    exact hK
  · obtain ⟨⟨ro,ry0,ry1,ry2,rk⟩,xx⟩:=hI
    have hO2:=Qaa hO xx
    have hS0:=Qg4 (resN zb) pre bt
    have hL:=QhO (resN zb) pre
    generalize mulB (resN zb) pre=s at hS0 hL ro
    cases bt
    · have cs:=fun W tO hO=>Qhh s s hL hL W tO hO
      have hn0:=isS_mod (s+s)
      obtain ⟨n0,hn⟩:∃ n0,n0=(s+s)%ordL:=⟨_,rfl⟩
      rw [←hn] at cs hn0
      have hS:mulB (resN zb) (pre++[false])=n0:=by
        rw [hS0]
        simp only [mulb,Bool.false_eq_true,if_false,hn]
      have ls:=b10
      refine wpIn_block ?_
      refine wpIn_seq_k fun K107 hK107=>?_
      refine QaD ?_
      refine QaW (.agg (ints .u64 (wl (s)))) 15 rfl (Qau l 1 _) rfl kj (Qae 97 _ g10 97 _ _ ro rfl kj kj (isz (n:=4) kj ((Qaf _ _).trans (QaV _)))) ?_
      refine QaW (.agg (ints .u64 (wl (s)))) 16 rfl (Qau l 1 _) rfl kj (Qae 97 _ g10 97 _ _ ro rfl kj kj (isz (n:=4) kj ((Qaf _ _).trans (QaV _)))) ?_
      refine QcW (.agg (ints .u64 (wl (n0)))) 63 #[.agg (ints .u64 (wl (s))),.agg (ints .u64 (wl (s)))] 17 rfl (Qau l 1 _) rfl kj kj (cs _ tO hO2) fun W1 e1=>?_
      have x1:Ext w W1:=Ext.tr xx e1
      have r102_1:=(Qaa ro e1)
      refine Qcw g10 _ (ints .u64 (wl (n0))) 97 r102_1 rfl (Qau l 1 _) rfl kj (Qai 97 _ _ g10 97 _ _ r102_1 rfl kj kj (isz (n:=4) kj ((Qaf _ _).trans (QaV _))) (eqsz (n:=4) ((Qaf _ _).trans (QaV _)) ((Qaf _ _).trans (QaV _))) (ints_one _ _)) fun W2 p2 r102_2=>?_
      have x2:Ext w W2:=Puts.ext p2 x1 ls
      refine Qcj ?_
      refine hK107 _ _ ?_
      refine wpIn_seq_k fun K108 hK108=>?_
      refine QaD ?_
      refine QaW (.int .i64 0) 18 rfl (Qau l 1 _) rfl kj kj ?_
      refine QaW (.bool false) 19 rfl (Qau l 1 _) rfl kj kj ?_
      refine Qcj ?_
      refine hK108 _ _ ?_
      refine QcV kj ?_
      refine wpIn_skip ?_
      have r103_2:=(Puts.row p2 (Qaa ry0 e1) n_ry0_ro)
      have r104_2:=(Puts.row p2 (Qaa ry1 e1) n_ry1_ro)
      have r105_2:=(Puts.row p2 (Qaa ry2 e1) n_ry2_ro)
      have r106_2:=(Puts.row p2 (Qaa rk e1) n_rk_ro)
      exact ⟨((Qb2 e1).trans (QbF p2 r102_1)),r106_2.trans rk.symm,⟨by rw [hS]; exact r102_2,r103_2,r104_2,r105_2,r106_2⟩,x2⟩
    · have cs:=fun W tO hO=>Qhh s s hL hL W tO hO
      have hn0:=isS_mod (s+s)
      obtain ⟨n0,hn⟩:∃ n0,n0=(s+s)%ordL:=⟨_,rfl⟩
      rw [←hn] at cs hn0
      have ct:=fun W tO hO=>Qhh n0 (resN zb) hn0 (QhA zb) W tO hO
      obtain ⟨m0,hm⟩:∃ m0,m0=(n0+resN zb)%ordL:=⟨_,rfl⟩
      rw [←hm] at ct
      have hS:mulB (resN zb) (pre++[true])=m0:=by
        rw [hS0]
        simp only [mulb,if_true,hm,hn]
      have ls:=b10
      refine wpIn_block ?_
      refine wpIn_seq_k fun K107 hK107=>?_
      refine QaD ?_
      refine QaW (.agg (ints .u64 (wl (s)))) 15 rfl (Qau l 1 _) rfl kj (Qae 97 _ g10 97 _ _ ro rfl kj kj (isz (n:=4) kj ((Qaf _ _).trans (QaV _)))) ?_
      refine QaW (.agg (ints .u64 (wl (s)))) 16 rfl (Qau l 1 _) rfl kj (Qae 97 _ g10 97 _ _ ro rfl kj kj (isz (n:=4) kj ((Qaf _ _).trans (QaV _)))) ?_
      refine QcW (.agg (ints .u64 (wl (n0)))) 63 #[.agg (ints .u64 (wl (s))),.agg (ints .u64 (wl (s)))] 17 rfl (Qau l 1 _) rfl kj kj (cs _ tO hO2) fun W1 e1=>?_
      have x1:Ext w W1:=Ext.tr xx e1
      have r102_1:=(Qaa ro e1)
      refine Qcw g10 _ (ints .u64 (wl (n0))) 97 r102_1 rfl (Qau l 1 _) rfl kj (Qai 97 _ _ g10 97 _ _ r102_1 rfl kj kj (isz (n:=4) kj ((Qaf _ _).trans (QaV _))) (eqsz (n:=4) ((Qaf _ _).trans (QaV _)) ((Qaf _ _).trans (QaV _))) (ints_one _ _)) fun W2 p2 r102_2=>?_
      have x2:Ext w W2:=Puts.ext p2 x1 ls
      refine Qcj ?_
      refine hK107 _ _ ?_
      refine wpIn_seq_k fun K108 hK108=>?_
      refine QaD ?_
      refine QaW (.int .i64 1) 18 rfl (Qau l 1 _) rfl kj kj ?_
      refine QaW (.bool true) 19 rfl (Qau l 1 _) rfl kj kj ?_
      refine Qcj ?_
      refine hK108 _ _ ?_
      refine Qdl kj ?_
      refine QaD ?_
      refine QaW (.agg (ints .u64 (wl (n0)))) 20 rfl (Qau l 1 _) rfl kj (Qae 97 _ g10 97 _ _ r102_2 rfl kj kj (isz (n:=4) kj ((Qaf _ _).trans (QaV _)))) ?_
      have r103_2:=(Puts.row p2 (Qaa ry0 e1) n_ry0_ro)
      refine QaW (.agg (ints .u64 (wl (resN zb)))) 21 rfl (Qau l 1 _) rfl kj (Qae 97 _ g8 97 _ _ r103_2 rfl kj kj (isz (n:=4) kj ((Qaf _ _).trans (QaV _)))) ?_
      have r101_2:=(Puts.row p2 (Qaa hO2 e1) (Nat.ne_of_lt (qL (Qa6 hO) ls)))
      refine QcW (.agg (ints .u64 (wl (m0)))) 63 #[.agg (ints .u64 (wl (n0))),.agg (ints .u64 (wl (resN zb)))] 22 rfl (Qau l 1 _) rfl kj kj (ct _ tO r101_2) fun W3 e3=>?_
      have x3:Ext w W3:=Ext.tr x2 e3
      have r102_3:=(Qaa r102_2 e3)
      refine Qcw g10 _ (ints .u64 (wl (m0))) 97 r102_3 rfl (Qau l 1 _) rfl kj (Qai 97 _ _ g10 97 _ _ r102_3 rfl kj kj (isz (n:=4) kj ((Qaf _ _).trans (QaV _))) (eqsz (n:=4) ((Qaf _ _).trans (QaV _)) ((Qaf _ _).trans (QaV _))) (ints_one _ _)) fun W4 p4 r102_4=>?_
      have x4:Ext w W4:=Puts.ext p4 x3 ls
      refine Qcj ?_
      have r103_4:=(Puts.row p4 (Qaa r103_2 e3) n_ry0_ro)
      have r104_4:=(Puts.row p4 (Qaa (Puts.row p2 (Qaa ry1 e1) n_ry1_ro) e3) n_ry1_ro)
      have r105_4:=(Puts.row p4 (Qaa (Puts.row p2 (Qaa ry2 e1) n_ry2_ro) e3) n_ry2_ro)
      have r106_4:=(Puts.row p4 (Qaa (Puts.row p2 (Qaa rk e1) n_rk_ro) e3) n_rk_ro)
      exact ⟨((((Qb2 e1).trans (QbF p2 r102_1)).trans (Qb2 e3)).trans (QbF p4 r102_3)),r106_4.trans rk.symm,⟨by rw [hS]; exact r102_4,r103_4,r104_4,r105_4,r106_4⟩,x4⟩
  obtain ⟨⟨ro,ry0,ry1,ry2,rk⟩,xx⟩:=hI
  subst hS
  have bD:w.heap.size≤D:=qT x9.size lD
  refine hK11 _ _ ?_
  refine wp_seq_k fun K15 hK15=>?_
  refine QaB 5 [⟨none,[(8,none)]⟩,⟨none,[(5,none)]⟩,⟨none,[(24,some 1)]⟩,⟨none,[(23,some 0),(25,some 2)]⟩,⟨none,[(26,some 3)]⟩] kj kj fun F hF=>?_
  refine Qam (.agg (ints .u64 (wl (mulB (resN zb) (QaH za))))) kj kj (fun W hR=>(Qae 97 _ g10 97 _ _ (Qaa (Qaa ro (Qah _)) hR) rfl kj kj (isz (n:=4) kj ((Qaf _ _).trans (QaV _))))) ?_
  refine Qav (.slice (some ⟨g5,0,none⟩) 32 32) kj kj (fun W=>kj) ?_
  refine Qaq (.agg (ints .u64 (wl (resN zc)))) 62 #[.slice (some ⟨g5,0,none⟩) 32 32] kj kj (fun W=>kj) (fun W hR=>QeC _ _ _ zc hc (by omega) hcb W tO (Qaa (Qaa (Qaa hO xx) (Qah _)) hR) (.inr ⟨g5,0,rfl,Qa6 (Qaa (Qaa ry1 (Qah _)) hR),Qga (Qaa (Qaa ry1 (Qah _)) hR) hc⟩)) ?_
  refine Qaq (.agg (ints .u64 (wl ((mulB (resN zb) (QaH za)+resN zc)%ordL)))) 63 #[.agg (ints .u64 (wl (mulB (resN zb) (QaH za)))),.agg (ints .u64 (wl (resN zc)))] kj kj (fun W=>kj) (fun W hR=>Qhh _ _ (QhO _ _) (QhA _) W tO (Qaa (Qaa (Qaa hO xx) (Qah _)) hR)) ?_
  refine Qaq (.agg (ints .u8 (Qao ((mulB (resN zb) (QaH za)+resN zc)%ordL)))) 64 #[.agg (ints .u64 (wl ((mulB (resN zb) (QaH za)+resN zc)%ordL)))] kj kj (fun W=>kj) (fun W hR=>Qha _ W tO (Qaa (Qaa (Qaa hO xx) (Qah _)) hR)) ?_
  refine Qa3 (hF _ kj fun W11 e11=>?_)
  simp only [ups,up,Kn.val,List.take_succ_cons,List.take_zero,List.drop_succ_cons,List.drop_zero,List.nil_append,List.cons_append]
  clear hF
  have x11:Ext w W11:=Ext.tr xx e11
  have r6_11:=(Qaa ry2 e11)
  refine Qal g6 _ (ints .u8 (Qao ((mulB (resN zb) (QaH za)+resN zc)%ordL))) 23 r6_11 rfl kj (Qai 23 _ _ g6 23 _ _ r6_11 rfl kj kj (isz (n:=32) kj ((Qaf _ _).trans (bytes_len _))) (eqsz (n:=32) ((Qaf _ _).trans zlen) ((Qaf _ _).trans (bytes_len _))) (ints_one _ _)) fun W12 p12 r6_12=>?_
  have x12:Ext w W12:=Puts.ext p12 x11 b6
  refine Qag ?_
  refine hK15 _ _ ?_
  refine wp_ret ?_
  have r14_12:=(Puts.row p12 (Qaa rD e11) (Qhn ry2 rD))
  exact (show bodyPostM _ _ _ _ _ .ret _ _ from QlO (.agg (ints .u8 (Qao ((mulB (resN zb) (QaH za)+resN zc)%ordL)))) rfl r14_12 (Qa9 g6 23 _ (QfG r6_12 r14_12 _) kj kj (isz (n:=32) kj ((Qaf _ _).trans (bytes_len _)))) ⟨rfl,QfH x12 bD r14_12 _⟩)
end Go.Proofs.YtdoadngmgmdlbaaDoor.Field
end
section
namespace Go.Proofs.YtdoadngmgmdlbaaDoor.Sgn
open Go Go.RowKit
open Rely Auto Own Sha5
open Ladder (clamp)
open Field (Qao resN numA num lims QbQ ordL Qbq QbS QbR QaP)
theorem bytesOf_len (n : Int):(Qao n).length=32:=Field.bytes_len n
theorem Qkr (xs : List Int) (hxs:xs.length=32) (hbxs:Qak xs) (gh:Nat) (Th:TypeId) (gp n:Nat) (Tp:TypeId) (ps:List (Value×List Int)) (hn:ps.length=n) (hn9:n≤1000) (hone:∀ u∈ps.map Prod.fst,u.oneCell'=true) (tc tq tO:TypeId) (w:World) (hc:w.heap[5]? = some (.cells (ints .u64 QcB) tc)) (hq:w.heap[4]? = some (.cells (ints .u64 Qb9) tq)) (hO:w.heap[3]? = some (.cells QbQ tO)) (hheads:w.heap[gh]? = some (.cells (ints .u8 (xs)) Th)) (hrow:w.heap[gp]? = some (.cells (ps.map Prod.fst).toArray Tp)) (hps:∀ p∈ps,RdK .u8 w.heap.size p.2 p.1 w∧Qak p.2) (hlen:((ps.map Prod.snd).flatten).length≤100000):Calls Tryd.prog 29 #[.slice (some ⟨gp,0,none⟩) n n,.slice (some ⟨gh,0,none⟩) 1 1] w (Ret w (.agg (ints .u8 (Qao (resN (dig (xs++(ps.map Prod.snd).flatten))))))):=by
  refine enter 32 [(0,.slice (some ⟨gp,0,none⟩) n n),(1,.slice (some ⟨gh,0,none⟩) 1 1)] Tryd.func29 rfl rfl kj rfl ?_
  refine wp_seq_k fun K6 hK6=>?_
  refine Qad ?_
  refine Qaj (ints .u8 (List.replicate 32 0)) 23 4 rfl kj kj fun g7 W1 l7 e1 r7_1=>?_
  have x1:Ext w W1:=Ext.tr (Rely.Ext.refl w) e1
  have b7:w.heap.size≤g7:=qT (Rely.Ext.refl w).size l7
  refine Qag ?_
  refine hK6 _ _ ?_
  refine wp_seq_k fun K8 hK8=>?_
  refine Qad ?_
  refine Qab (.slice none 0 0) 5 rfl kj kj ?_
  refine Qag ?_
  refine hK8 _ _ ?_
  refine wp_seq_k fun K9 hK9=>?_
  refine wp_seq_k fun K10 hK10=>?_
  refine Qad ?_
  refine Qab (.slice (some ⟨gh,0,none⟩) 1 1) 11 rfl kj kj ?_
  refine Qab (.int .i64 1) 12 rfl kj kj ?_
  refine Qab (.int .i64 0) 13 rfl kj kj ?_
  refine Qag ?_
  refine hK10 _ _ ?_
  refine wp_block ?_
  refine wp_loop_rounds 2 ?_
  show Code.wp _ _ (Exit.then (Code.rounds _ _ _ 1) _) _ _
  refine wp_seq_k fun K11 hK11=>?_
  refine Qad ?_
  refine Qab (.bool true) 14 rfl kj kj ?_
  refine Qag ?_
  refine hK11 _ _ ?_
  refine wp_seq_k fun K12 hK12=>?_
  refine cond_true kj ?_
  refine wp_skip ?_
  refine hK12 _ _ ?_
  refine wp_seq_k fun K13 hK13=>?_
  refine wp_block ?_
  refine wp_seq_k fun K14 hK14=>?_
  refine Qad ?_
  refine Qab (.pointer (some ⟨gh,0,none⟩)) 15 rfl kj kj ?_
  have r4_1:=(Qaa hheads e1)
  refine Qab (.agg (ints .u8 (xs))) 16 rfl kj (Qae 23 _ gh Th _ _ r4_1 rfl kj kj (isz (n:=32) kj ((Qaf _ _).trans hxs))) ?_
  refine Qaj (ints .u8 (List.replicate 32 0)) 23 7 rfl kj kj fun g15 W2 l15 e2 r15_2=>?_
  have x2:Ext w W2:=Ext.tr x1 e2
  have b15:w.heap.size≤g15:=qT x1.size l15
  refine Qal g15 _ (ints .u8 (xs)) 23 r15_2 rfl kj (Qai 23 _ _ g15 23 _ _ r15_2 rfl kj kj (isz (n:=32) kj ((Qaf _ _).trans hxs)) (eqsz (n:=32) ((Qaf _ _).trans (qZ (n:=32))) ((Qaf _ _).trans hxs)) (ints_one _ _)) fun W3 p3 r15_3=>?_
  have x3:Ext w W3:=Puts.ext p3 x2 b15
  refine Qag ?_
  refine hK14 _ _ ?_
  refine Qad ?_
  refine Qab (.slice none 0 0) 17 rfl kj kj ?_
  refine Qab (.slice (some ⟨g15,0,none⟩) 32 32) 18 rfl kj kj ?_
  refine Qbd (#[.slice (some ⟨g15,0,none⟩) 32 32]) 27 1 19 rfl kj kj fun g16 W4 l16 e4 r16_4=>?_
  have x4:Ext w W4:=Ext.tr x3 e4
  have b16:w.heap.size≤g16:=qT x3.size l16
  have hu0:OwnR 27 w.heap.size [] (.slice none 0 0) W4:=QhJ
  have r15_4:=(Qaa r15_3 e4)
  have r1_1:=(Qaa hc e1)
  have r1_2:=(Qaa r1_1 e2)
  have r1_3:=(Puts.row p3 r1_2 (Qac r1_1 l15))
  have r1_4:=(Qaa r1_3 e4)
  refine Qcy (T:=27) (c:=1) (m:=1) (gy:=g16) (ys:=[.slice (some ⟨g15,0,none⟩) 32 32]) w.heap.size 24 (.tmp 17) (.tmp 19) 63 rfl kj (.slice none 0 0) kj rfl (by decide) 20 rfl kj kj kj r16_4 rfl (fun i u h=>by rw [←List.getElem?_toArray] at h; exact h) (fun u h=>by rw [List.mem_singleton.1 h]; rfl) hu0 (show 0≤100000 by decide) (by decide) x4.size fun u5 W5 hu5 q5=>?_
  have x5:Ext w W5:=QgB x4 q5 (fun g hg=>(OwnR.at hu0 hg).1)
  refine Qab (u5) 5 rfl kj kj ?_
  refine Qag ?_
  refine hK13 _ _ ?_
  refine Qad ?_
  refine Qab (.int .i64 1) 21 rfl kj kj ?_
  refine Qab (.int .i64 1) 13 rfl kj kj ?_
  refine Qag ?_
  show Code.rounds _ _ _ 1 _ _
  show Code.wp _ _ (Exit.then (Code.rounds _ _ _ 0) _) _ _
  refine wp_seq_k fun K17 hK17=>?_
  refine Qad ?_
  refine Qab (.bool false) 14 rfl kj kj ?_
  refine Qag ?_
  refine hK17 _ _ ?_
  refine wp_seq_k fun K18 hK18=>?_
  refine cond_false kj ?_
  refine wp_exit ?_
  refine hK9 _ _ ?_
  refine wp_seq_k fun K19 hK19=>?_
  refine Qad ?_
  refine Qab (u5) 22 rfl kj kj ?_
  refine Qab (.slice (some ⟨gp,0,none⟩) n n) 23 rfl kj kj ?_
  have ho5_20:=hu5
  have r15_5:=(Qbe q5 r15_4 (Qcs hu0 r15_4 (by decide)))
  have r1_5:=(Qbe q5 r1_4 (QbP hu0 (Qa6 hc)))
  have r5_1:=(Qaa hrow e1)
  have r5_2:=(Qaa r5_1 e2)
  have r5_3:=(Puts.row p3 r5_2 (Qac r5_1 l15))
  have r5_4:=(Qaa r5_3 e4)
  have r5_5:=(Qbe q5 r5_4 (QbP hu0 (Qa6 hrow)))
  refine Qcy (T:=27) (c:=n) (m:=n) (gy:=gp) (ys:=(ps.map Prod.fst)) w.heap.size 24 (.tmp 22) (.tmp 23) 63 rfl kj (.slice none 0 0) kj rfl (by decide) 24 rfl kj kj kj r5_5 ((List.length_map _).trans hn) (fun i u h=>by rw [List.getElem?_toArray]; exact h) hone ho5_20 (show 1≤100000 by decide) (by omega) x5.size fun u6 W6 hu6 q6=>?_
  have x6:Ext w W6:=QgB x5 q6 (fun g hg=>(OwnR.at ho5_20 hg).1)
  have ho6_21:=hu6
  have r15_6:=(Qbe q6 r15_5 (Qcs ho5_20 r15_5 (by decide)))
  have r1_6:=(Qbe q6 r1_5 (QbP ho5_20 (Qa6 hc)))
  have r2_1:=(Qaa hq e1)
  have r2_2:=(Qaa r2_1 e2)
  have r2_3:=(Puts.row p3 r2_2 (Qac r2_1 l15))
  have r2_4:=(Qaa r2_3 e4)
  have r2_5:=(Qbe q5 r2_4 (QbP hu0 (Qa6 hq)))
  have r2_6:=(Qbe q6 r2_5 (QbP ho5_20 (Qa6 hq)))
  have r5_6:=(Qbe q6 r5_5 (QbP ho5_20 (Qa6 hrow)))
  obtain ⟨gl,cl,cul,elv,hgl,rl9,hcl⟩:=OwnR.row (n:=1+n) ho6_21 (by simp only [List.length_append,List.length_map,List.length_cons,List.length_nil,hn]) (by omega)
  have hps9:∀ p∈(([(.slice (some ⟨g15,0,none⟩) 32 32,xs)]:List (Value×List Int))++ps),RdK .u8 W6.heap.size p.2 p.1 W6∧Qak p.2:=by
    intro p hp
    rcases List.mem_append.1 hp with hp | hp
    · simp only [List.mem_cons,List.not_mem_nil,or_false] at hp
      rcases hp with rfl
      · exact ⟨QdA 0 hxs r15_6 (fun i hi=>by rw [Nat.zero_add]; exact Qaw .u8 xs i (by omega)) (Qa6 r15_6) (by decide) (by decide),hbxs⟩
    · exact ⟨RdK.here ((hps p hp).1.ext x6),(hps p hp).2⟩
  have hfl:(((([(.slice (some ⟨g15,0,none⟩) 32 32,xs)]:List (Value×List Int))++ps).map Prod.snd).flatten)=xs++(ps.map Prod.snd).flatten:=by simp
  have hcs9:∀ i,i<(([(.slice (some ⟨g15,0,none⟩) 32 32,xs)]:List (Value×List Int))++ps).length→cul[i]? = some (pat (([(.slice (some ⟨g15,0,none⟩) 32 32,xs)]:List (Value×List Int))++ps) i).1:=fun i hi=>hcl i _ (by rw [Qgy hi]; rw [show []++[.slice (some ⟨g15,0,none⟩) 32 32]++(ps.map Prod.fst)=(([(.slice (some ⟨g15,0,none⟩) 32 32,xs)]:List (Value×List Int))++ps).map Prod.fst by simp]; rw [List.getElem?_map,List.getElem?_eq_getElem hi]; rfl)
  have hlg:=Qmz gl (1+n) cl cul 27 (([(.slice (some ⟨g15,0,none⟩) 32 32,xs)]:List (Value×List Int))++ps) (by simp only [List.length_append,List.length_cons,List.length_nil,hn]) (by omega) tc tq W6 r1_6 r2_6 rl9 hcs9 hps9 (by rw [hfl]; simp only [List.length_append,hxs]; omega)
  rw [hfl] at hlg
  subst elv
  refine Qar (.agg (ints .u8 (dig (xs++(ps.map Prod.snd).flatten)))) 41 #[.slice (some ⟨gl,0,none⟩) (1+n) cl] 25 rfl kj kj hlg fun W7 e7=>?_
  have x7:Ext w W7:=Ext.tr x6 e7
  refine Qaj (ints .u8 (List.replicate 64 0)) 30 8 rfl kj kj fun g22 W8 l22 e8 r22_8=>?_
  have x8:Ext w W8:=Ext.tr x7 e8
  have b22:w.heap.size≤g22:=qT x7.size l22
  refine Qal g22 _ (ints .u8 (dig (xs++(ps.map Prod.snd).flatten))) 30 r22_8 rfl kj (Qai 30 _ _ g22 30 _ _ r22_8 rfl kj kj (isz (n:=64) kj ((Qaf _ _).trans (dig_len _))) (eqsz (n:=64) ((Qaf _ _).trans (qZ (n:=64))) ((Qaf _ _).trans (dig_len _))) (ints_one _ _)) fun W9 p9 r22_9=>?_
  have x9:Ext w W9:=Puts.ext p9 x8 b22
  refine Qag ?_
  refine hK19 _ _ ?_
  refine wp_seq_k fun K23 hK23=>?_
  refine Qad ?_
  refine Qab (.slice (some ⟨g22,0,none⟩) 64 64) 27 rfl kj kj ?_
  have r3_1:=(Qaa hO e1)
  have r3_2:=(Qaa r3_1 e2)
  have r3_3:=(Puts.row p3 r3_2 (Qac r3_1 l15))
  have r3_4:=(Qaa r3_3 e4)
  have r3_5:=(Qbe q5 r3_4 (QbP hu0 (Qa6 hO)))
  have r3_6:=(Qbe q6 r3_5 (QbP ho5_20 (Qa6 hO)))
  have r3_7:=(Qaa r3_6 e7)
  have r3_8:=(Qaa r3_7 e8)
  have r3_9:=(Puts.row p9 r3_8 (Qac r3_7 l22))
  refine Qar (.tuple #[.agg (ints .u8 (Qao (resN (dig (xs++(ps.map Prod.snd).flatten))))),.bool true]) 61 #[.slice (some ⟨g22,0,none⟩) 64 64] 28 rfl kj kj (Field.reduce_ok (some ⟨g22,0,none⟩) 64 64 (dig (xs++(ps.map Prod.snd).flatten)) (dig_len _) (qR _) (dig_bytes _) _ tO r3_9 (.inr ⟨g22,0,rfl,Qa6 r22_9,fun i hi=>QaE r22_9 (by rw [Nat.zero_add]; exact Qaw .u8 _ i (by rw [dig_len]; exact hi))⟩)) fun W10 e10=>?_
  have x10:Ext w W10:=Ext.tr x9 e10
  refine Qab (.tuple #[.agg (ints .u8 (Qao (resN (dig (xs++(ps.map Prod.snd).flatten))))),.bool true]) 26 rfl kj kj ?_
  refine Qab (.agg (ints .u8 (Qao (resN (dig (xs++(ps.map Prod.snd).flatten)))))) 29 rfl kj kj ?_
  refine Qab (.bool true) 30 rfl kj kj ?_
  refine Qaj (ints .u8 (List.replicate 32 0)) 23 9 rfl kj kj fun g24 W11 l24 e11 r24_11=>?_
  have x11:Ext w W11:=Ext.tr x10 e11
  have b24:w.heap.size≤g24:=qT x10.size l24
  refine Qal g24 _ (ints .u8 (Qao (resN (dig (xs++(ps.map Prod.snd).flatten))))) 23 r24_11 rfl kj (Qai 23 _ _ g24 23 _ _ r24_11 rfl kj kj (isz (n:=32) kj ((Qaf _ _).trans (bytesOf_len _))) (eqsz (n:=32) ((Qaf _ _).trans (qZ (n:=32))) ((Qaf _ _).trans (bytesOf_len _))) (ints_one _ _)) fun W12 p12 r24_12=>?_
  have x12:Ext w W12:=Puts.ext p12 x11 b24
  refine Qab (.bool true) 10 rfl kj kj ?_
  refine Qag ?_
  refine hK23 _ _ ?_
  refine wp_seq_k fun K25 hK25=>?_
  refine Qad ?_
  refine Qab (.agg (ints .u8 (Qao (resN (dig (xs++(ps.map Prod.snd).flatten)))))) 31 rfl kj (Qae 23 _ g24 23 _ _ r24_12 rfl kj kj (isz (n:=32) kj ((Qaf _ _).trans (bytesOf_len _)))) ?_
  have r7_2:=(Qaa r7_1 e2)
  have r7_3:=(Puts.row p3 r7_2 (Qac r7_1 l15))
  have r7_4:=(Qaa r7_3 e4)
  have r7_5:=(Qbe q5 r7_4 (Qcs hu0 r7_4 (by decide)))
  have r7_6:=(Qbe q6 r7_5 (Qcs ho5_20 r7_5 (by decide)))
  have r7_7:=(Qaa r7_6 e7)
  have r7_8:=(Qaa r7_7 e8)
  have r7_9:=(Puts.row p9 r7_8 (Qac r7_7 l22))
  have r7_10:=(Qaa r7_9 e10)
  have r7_11:=(Qaa r7_10 e11)
  have r7_12:=(Puts.row p12 r7_11 (Qac r7_10 l24))
  refine Qal g7 _ (ints .u8 (Qao (resN (dig (xs++(ps.map Prod.snd).flatten))))) 23 r7_12 rfl kj (Qai 23 _ _ g7 23 _ _ r7_12 rfl kj kj (isz (n:=32) kj ((Qaf _ _).trans (bytesOf_len _))) (eqsz (n:=32) ((Qaf _ _).trans (qZ (n:=32))) ((Qaf _ _).trans (bytesOf_len _))) (ints_one _ _)) fun W13 p13 r7_13=>?_
  have x13:Ext w W13:=Puts.ext p13 x12 b7
  refine Qag ?_
  refine hK25 _ _ ?_
  refine wp_ret ?_
  repeat (first | with_reducible refine goR1 ?_ | with_reducible refine goR2 ?_)
  exact (show bodyPost _ _ _ .ret _ _ from ret1 (.agg (ints .u8 (Qao (resN (dig (xs++(ps.map Prod.snd).flatten)))))) rfl (Qa9 g7 23 _ r7_13 kj kj (isz (n:=32) kj ((Qaf _ _).trans (bytesOf_len _)))) ⟨rfl,x13⟩)
theorem Qkq (xs ys:List Int) (hxs:xs.length=32) (hbxs:Qak xs) (hys:ys.length=32) (hbys:Qak ys) (gh:Nat) (Th:TypeId) (gp n:Nat) (Tp:TypeId) (ps:List (Value×List Int)) (hn:ps.length=n) (hn9:n≤1000) (hone:∀ u∈ps.map Prod.fst,u.oneCell'=true) (tc tq tO:TypeId) (w:World) (hc:w.heap[5]? = some (.cells (ints .u64 QcB) tc)) (hq:w.heap[4]? = some (.cells (ints .u64 Qb9) tq)) (hO:w.heap[3]? = some (.cells QbQ tO)) (hheads:w.heap[gh]? = some (.cells (cat [ints .u8 (xs),ints .u8 (ys)]) Th)) (hrow:w.heap[gp]? = some (.cells (ps.map Prod.fst).toArray Tp)) (hps:∀ p∈ps,RdK .u8 w.heap.size p.2 p.1 w∧Qak p.2) (hlen:((ps.map Prod.snd).flatten).length≤100000):Calls Tryd.prog 29 #[.slice (some ⟨gp,0,none⟩) n n,.slice (some ⟨gh,0,none⟩) 2 2] w (Ret w (.agg (ints .u8 (Qao (resN (dig (xs++ys++(ps.map Prod.snd).flatten))))))):=by
  refine enter 32 [(0,.slice (some ⟨gp,0,none⟩) n n),(1,.slice (some ⟨gh,0,none⟩) 2 2)] Tryd.func29 rfl rfl kj rfl ?_
  refine wp_seq_k fun K6 hK6=>?_
  refine Qad ?_
  refine Qaj (ints .u8 (List.replicate 32 0)) 23 4 rfl kj kj fun g7 W1 l7 e1 r7_1=>?_
  have x1:Ext w W1:=Ext.tr (Rely.Ext.refl w) e1
  have b7:w.heap.size≤g7:=qT (Rely.Ext.refl w).size l7
  refine Qag ?_
  refine hK6 _ _ ?_
  refine wp_seq_k fun K8 hK8=>?_
  refine Qad ?_
  refine Qab (.slice none 0 0) 5 rfl kj kj ?_
  refine Qag ?_
  refine hK8 _ _ ?_
  refine wp_seq_k fun K9 hK9=>?_
  refine wp_seq_k fun K10 hK10=>?_
  refine Qad ?_
  refine Qab (.slice (some ⟨gh,0,none⟩) 2 2) 11 rfl kj kj ?_
  refine Qab (.int .i64 2) 12 rfl kj kj ?_
  refine Qab (.int .i64 0) 13 rfl kj kj ?_
  refine Qag ?_
  refine hK10 _ _ ?_
  refine wp_block ?_
  refine wp_loop_rounds 3 ?_
  show Code.wp _ _ (Exit.then (Code.rounds _ _ _ 2) _) _ _
  refine wp_seq_k fun K11 hK11=>?_
  refine Qad ?_
  refine Qab (.bool true) 14 rfl kj kj ?_
  refine Qag ?_
  refine hK11 _ _ ?_
  refine wp_seq_k fun K12 hK12=>?_
  refine cond_true kj ?_
  refine wp_skip ?_
  refine hK12 _ _ ?_
  refine wp_seq_k fun K13 hK13=>?_
  refine wp_block ?_
  refine wp_seq_k fun K14 hK14=>?_
  refine Qad ?_
  refine Qab (.pointer (some ⟨gh,0,none⟩)) 15 rfl kj kj ?_
  have r4_1:=(Qaa hheads e1)
  refine Qab (.agg (ints .u8 (xs))) 16 rfl kj (Qaz 23 _ gh 0 Th _ _ _ r4_1 rfl kj (QaF [] [ints .u8 (xs)] [ints .u8 (ys)] 0 kj) kj (isz (n:=32) kj ((Qaf _ _).trans hxs))) ?_
  refine Qaj (ints .u8 (List.replicate 32 0)) 23 7 rfl kj kj fun g15 W2 l15 e2 r15_2=>?_
  have x2:Ext w W2:=Ext.tr x1 e2
  have b15:w.heap.size≤g15:=qT x1.size l15
  refine Qal g15 _ (ints .u8 (xs)) 23 r15_2 rfl kj (Qai 23 _ _ g15 23 _ _ r15_2 rfl kj kj (isz (n:=32) kj ((Qaf _ _).trans hxs)) (eqsz (n:=32) ((Qaf _ _).trans (qZ (n:=32))) ((Qaf _ _).trans hxs)) (ints_one _ _)) fun W3 p3 r15_3=>?_
  have x3:Ext w W3:=Puts.ext p3 x2 b15
  refine Qag ?_
  refine hK14 _ _ ?_
  refine Qad ?_
  refine Qab (.slice none 0 0) 17 rfl kj kj ?_
  refine Qab (.slice (some ⟨g15,0,none⟩) 32 32) 18 rfl kj kj ?_
  refine Qbd (#[.slice (some ⟨g15,0,none⟩) 32 32]) 27 1 19 rfl kj kj fun g16 W4 l16 e4 r16_4=>?_
  have x4:Ext w W4:=Ext.tr x3 e4
  have b16:w.heap.size≤g16:=qT x3.size l16
  have hu0:OwnR 27 w.heap.size [] (.slice none 0 0) W4:=QhJ
  have r15_4:=(Qaa r15_3 e4)
  have r1_1:=(Qaa hc e1)
  have r1_2:=(Qaa r1_1 e2)
  have r1_3:=(Puts.row p3 r1_2 (Qac r1_1 l15))
  have r1_4:=(Qaa r1_3 e4)
  refine Qcy (T:=27) (c:=1) (m:=1) (gy:=g16) (ys:=[.slice (some ⟨g15,0,none⟩) 32 32]) w.heap.size 24 (.tmp 17) (.tmp 19) 63 rfl kj (.slice none 0 0) kj rfl (by decide) 20 rfl kj kj kj r16_4 rfl (fun i u h=>by rw [←List.getElem?_toArray] at h; exact h) (fun u h=>by rw [List.mem_singleton.1 h]; rfl) hu0 (show 0≤100000 by decide) (by decide) x4.size fun u5 W5 hu5 q5=>?_
  have x5:Ext w W5:=QgB x4 q5 (fun g hg=>(OwnR.at hu0 hg).1)
  refine Qab (u5) 5 rfl kj kj ?_
  refine Qag ?_
  refine hK13 _ _ ?_
  refine Qad ?_
  refine Qab (.int .i64 1) 21 rfl kj kj ?_
  refine Qab (.int .i64 1) 13 rfl kj kj ?_
  refine Qag ?_
  show Code.rounds _ _ _ 2 _ _
  show Code.wp _ _ (Exit.then (Code.rounds _ _ _ 1) _) _ _
  refine wp_seq_k fun K17 hK17=>?_
  refine Qad ?_
  refine Qab (.bool true) 14 rfl kj kj ?_
  refine Qag ?_
  refine hK17 _ _ ?_
  refine wp_seq_k fun K18 hK18=>?_
  refine cond_true kj ?_
  refine wp_skip ?_
  refine hK18 _ _ ?_
  refine wp_seq_k fun K19 hK19=>?_
  refine wp_block ?_
  refine wp_seq_k fun K20 hK20=>?_
  refine Qad ?_
  refine Qab (.pointer (some ⟨gh,32,none⟩)) 15 rfl kj kj ?_
  have r4_2:=(Qaa r4_1 e2)
  have r4_3:=(Puts.row p3 r4_2 (Qac r4_1 l15))
  have r4_4:=(Qaa r4_3 e4)
  have r4_5:=(Qbe q5 r4_4 (QbP hu0 (Qa6 hheads)))
  refine Qab (.agg (ints .u8 (ys))) 16 rfl kj (Qaz 23 _ gh 32 Th _ _ _ r4_5 rfl kj (QaF [ints .u8 (xs)] [ints .u8 (ys)] [] 32 ((Qaf _ _).trans hxs)) kj (isz (n:=32) kj ((Qaf _ _).trans hys))) ?_
  refine Qaj (ints .u8 (List.replicate 32 0)) 23 7 rfl kj kj fun g21 W6 l21 e6 r21_6=>?_
  have x6:Ext w W6:=Ext.tr x5 e6
  have b21:w.heap.size≤g21:=qT x5.size l21
  refine Qal g21 _ (ints .u8 (ys)) 23 r21_6 rfl kj (Qai 23 _ _ g21 23 _ _ r21_6 rfl kj kj (isz (n:=32) kj ((Qaf _ _).trans hys)) (eqsz (n:=32) ((Qaf _ _).trans (qZ (n:=32))) ((Qaf _ _).trans hys)) (ints_one _ _)) fun W7 p7 r21_7=>?_
  have x7:Ext w W7:=Puts.ext p7 x6 b21
  refine Qag ?_
  refine hK20 _ _ ?_
  refine Qad ?_
  refine Qab (u5) 17 rfl kj kj ?_
  refine Qab (.slice (some ⟨g21,0,none⟩) 32 32) 18 rfl kj kj ?_
  refine Qbd (#[.slice (some ⟨g21,0,none⟩) 32 32]) 27 1 19 rfl kj kj fun g22 W8 l22 e8 r22_8=>?_
  have x8:Ext w W8:=Ext.tr x7 e8
  have b22:w.heap.size≤g22:=qT x7.size l22
  have ho8_23:=((OwnR.puts (hu5.ext e6) p7 r21_6 (by decide)).ext e8)
  have r15_5:=(Qbe q5 r15_4 (Qcs hu0 r15_4 (by decide)))
  have r15_6:=(Qaa r15_5 e6)
  have r15_7:=(Puts.row p7 r15_6 (Qac r15_5 l21))
  have r15_8:=(Qaa r15_7 e8)
  have r21_8:=(Qaa r21_7 e8)
  have r1_5:=(Qbe q5 r1_4 (QbP hu0 (Qa6 hc)))
  have r1_6:=(Qaa r1_5 e6)
  have r1_7:=(Puts.row p7 r1_6 (Qac r1_5 l21))
  have r1_8:=(Qaa r1_7 e8)
  refine Qcy (T:=27) (c:=1) (m:=1) (gy:=g22) (ys:=[.slice (some ⟨g21,0,none⟩) 32 32]) w.heap.size 24 (.tmp 17) (.tmp 19) 63 rfl kj (.slice none 0 0) kj rfl (by decide) 20 rfl kj kj kj r22_8 rfl (fun i u h=>by rw [←List.getElem?_toArray] at h; exact h) (fun u h=>by rw [List.mem_singleton.1 h]; rfl) ho8_23 (show 1≤100000 by decide) (by decide) x8.size fun u9 W9 hu9 q9=>?_
  have x9:Ext w W9:=QgB x8 q9 (fun g hg=>(OwnR.at ho8_23 hg).1)
  refine Qab (u9) 5 rfl kj kj ?_
  refine Qag ?_
  refine hK19 _ _ ?_
  refine Qad ?_
  refine Qab (.int .i64 2) 21 rfl kj kj ?_
  refine Qab (.int .i64 2) 13 rfl kj kj ?_
  refine Qag ?_
  show Code.rounds _ _ _ 1 _ _
  show Code.wp _ _ (Exit.then (Code.rounds _ _ _ 0) _) _ _
  refine wp_seq_k fun K24 hK24=>?_
  refine Qad ?_
  refine Qab (.bool false) 14 rfl kj kj ?_
  refine Qag ?_
  refine hK24 _ _ ?_
  refine wp_seq_k fun K25 hK25=>?_
  refine cond_false kj ?_
  refine wp_exit ?_
  refine hK9 _ _ ?_
  refine wp_seq_k fun K26 hK26=>?_
  refine Qad ?_
  refine Qab (u9) 22 rfl kj kj ?_
  refine Qab (.slice (some ⟨gp,0,none⟩) n n) 23 rfl kj kj ?_
  have ho9_27:=hu9
  have r15_9:=(Qbe q9 r15_8 (Qcs ho8_23 r15_8 (by decide)))
  have r21_9:=(Qbe q9 r21_8 (Qcs ho8_23 r21_8 (by decide)))
  have r1_9:=(Qbe q9 r1_8 (QbP ho8_23 (Qa6 hc)))
  have r5_1:=(Qaa hrow e1)
  have r5_2:=(Qaa r5_1 e2)
  have r5_3:=(Puts.row p3 r5_2 (Qac r5_1 l15))
  have r5_4:=(Qaa r5_3 e4)
  have r5_5:=(Qbe q5 r5_4 (QbP hu0 (Qa6 hrow)))
  have r5_6:=(Qaa r5_5 e6)
  have r5_7:=(Puts.row p7 r5_6 (Qac r5_5 l21))
  have r5_8:=(Qaa r5_7 e8)
  have r5_9:=(Qbe q9 r5_8 (QbP ho8_23 (Qa6 hrow)))
  refine Qcy (T:=27) (c:=n) (m:=n) (gy:=gp) (ys:=(ps.map Prod.fst)) w.heap.size 24 (.tmp 22) (.tmp 23) 63 rfl kj (.slice none 0 0) kj rfl (by decide) 24 rfl kj kj kj r5_9 ((List.length_map _).trans hn) (fun i u h=>by rw [List.getElem?_toArray]; exact h) hone ho9_27 (show 2≤100000 by decide) (by omega) x9.size fun u10 W10 hu10 q10=>?_
  have x10:Ext w W10:=QgB x9 q10 (fun g hg=>(OwnR.at ho9_27 hg).1)
  have ho10_28:=hu10
  have r15_10:=(Qbe q10 r15_9 (Qcs ho9_27 r15_9 (by decide)))
  have r21_10:=(Qbe q10 r21_9 (Qcs ho9_27 r21_9 (by decide)))
  have r1_10:=(Qbe q10 r1_9 (QbP ho9_27 (Qa6 hc)))
  have r2_1:=(Qaa hq e1)
  have r2_2:=(Qaa r2_1 e2)
  have r2_3:=(Puts.row p3 r2_2 (Qac r2_1 l15))
  have r2_4:=(Qaa r2_3 e4)
  have r2_5:=(Qbe q5 r2_4 (QbP hu0 (Qa6 hq)))
  have r2_6:=(Qaa r2_5 e6)
  have r2_7:=(Puts.row p7 r2_6 (Qac r2_5 l21))
  have r2_8:=(Qaa r2_7 e8)
  have r2_9:=(Qbe q9 r2_8 (QbP ho8_23 (Qa6 hq)))
  have r2_10:=(Qbe q10 r2_9 (QbP ho9_27 (Qa6 hq)))
  have r5_10:=(Qbe q10 r5_9 (QbP ho9_27 (Qa6 hrow)))
  obtain ⟨gl,cl,cul,elv,hgl,rl9,hcl⟩:=OwnR.row (n:=2+n) ho10_28 (by simp only [List.length_append,List.length_map,List.length_cons,List.length_nil,hn]) (by omega)
  have hps9:∀ p∈(([(.slice (some ⟨g15,0,none⟩) 32 32,xs),(.slice (some ⟨g21,0,none⟩) 32 32,ys)]:List (Value×List Int))++ps),RdK .u8 W10.heap.size p.2 p.1 W10∧Qak p.2:=by
    intro p hp
    rcases List.mem_append.1 hp with hp | hp
    · simp only [List.mem_cons,List.not_mem_nil,or_false] at hp
      rcases hp with rfl | rfl
      · exact ⟨QdA 0 hxs r15_10 (fun i hi=>by rw [Nat.zero_add]; exact Qaw .u8 xs i (by omega)) (Qa6 r15_10) (by decide) (by decide),hbxs⟩
      · exact ⟨QdA 0 hys r21_10 (fun i hi=>by rw [Nat.zero_add]; exact Qaw .u8 ys i (by omega)) (Qa6 r21_10) (by decide) (by decide),hbys⟩
    · exact ⟨RdK.here ((hps p hp).1.ext x10),(hps p hp).2⟩
  have hfl:(((([(.slice (some ⟨g15,0,none⟩) 32 32,xs),(.slice (some ⟨g21,0,none⟩) 32 32,ys)]:List (Value×List Int))++ps).map Prod.snd).flatten)=xs++ys++(ps.map Prod.snd).flatten:=by simp
  have hcs9:∀ i,i<(([(.slice (some ⟨g15,0,none⟩) 32 32,xs),(.slice (some ⟨g21,0,none⟩) 32 32,ys)]:List (Value×List Int))++ps).length→cul[i]? = some (pat (([(.slice (some ⟨g15,0,none⟩) 32 32,xs),(.slice (some ⟨g21,0,none⟩) 32 32,ys)]:List (Value×List Int))++ps) i).1:=fun i hi=>hcl i _ (by rw [Qgy hi]; rw [show []++[.slice (some ⟨g15,0,none⟩) 32 32]++[.slice (some ⟨g21,0,none⟩) 32 32]++(ps.map Prod.fst)=(([(.slice (some ⟨g15,0,none⟩) 32 32,xs),(.slice (some ⟨g21,0,none⟩) 32 32,ys)]:List (Value×List Int))++ps).map Prod.fst by simp]; rw [List.getElem?_map,List.getElem?_eq_getElem hi]; rfl)
  have hlg:=Qmz gl (2+n) cl cul 27 (([(.slice (some ⟨g15,0,none⟩) 32 32,xs),(.slice (some ⟨g21,0,none⟩) 32 32,ys)]:List (Value×List Int))++ps) (by simp only [List.length_append,List.length_cons,List.length_nil,hn]) (by omega) tc tq W10 r1_10 r2_10 rl9 hcs9 hps9 (by rw [hfl]; simp only [List.length_append,hxs,hys]; omega)
  rw [hfl] at hlg
  subst elv
  refine Qar (.agg (ints .u8 (dig (xs++ys++(ps.map Prod.snd).flatten)))) 41 #[.slice (some ⟨gl,0,none⟩) (2+n) cl] 25 rfl kj kj hlg fun W11 e11=>?_
  have x11:Ext w W11:=Ext.tr x10 e11
  refine Qaj (ints .u8 (List.replicate 64 0)) 30 8 rfl kj kj fun g29 W12 l29 e12 r29_12=>?_
  have x12:Ext w W12:=Ext.tr x11 e12
  have b29:w.heap.size≤g29:=qT x11.size l29
  refine Qal g29 _ (ints .u8 (dig (xs++ys++(ps.map Prod.snd).flatten))) 30 r29_12 rfl kj (Qai 30 _ _ g29 30 _ _ r29_12 rfl kj kj (isz (n:=64) kj ((Qaf _ _).trans (dig_len _))) (eqsz (n:=64) ((Qaf _ _).trans (qZ (n:=64))) ((Qaf _ _).trans (dig_len _))) (ints_one _ _)) fun W13 p13 r29_13=>?_
  have x13:Ext w W13:=Puts.ext p13 x12 b29
  refine Qag ?_
  refine hK26 _ _ ?_
  refine wp_seq_k fun K30 hK30=>?_
  refine Qad ?_
  refine Qab (.slice (some ⟨g29,0,none⟩) 64 64) 27 rfl kj kj ?_
  have r3_1:=(Qaa hO e1)
  have r3_2:=(Qaa r3_1 e2)
  have r3_3:=(Puts.row p3 r3_2 (Qac r3_1 l15))
  have r3_4:=(Qaa r3_3 e4)
  have r3_5:=(Qbe q5 r3_4 (QbP hu0 (Qa6 hO)))
  have r3_6:=(Qaa r3_5 e6)
  have r3_7:=(Puts.row p7 r3_6 (Qac r3_5 l21))
  have r3_8:=(Qaa r3_7 e8)
  have r3_9:=(Qbe q9 r3_8 (QbP ho8_23 (Qa6 hO)))
  have r3_10:=(Qbe q10 r3_9 (QbP ho9_27 (Qa6 hO)))
  have r3_11:=(Qaa r3_10 e11)
  have r3_12:=(Qaa r3_11 e12)
  have r3_13:=(Puts.row p13 r3_12 (Qac r3_11 l29))
  refine Qar (.tuple #[.agg (ints .u8 (Qao (resN (dig (xs++ys++(ps.map Prod.snd).flatten))))),.bool true]) 61 #[.slice (some ⟨g29,0,none⟩) 64 64] 28 rfl kj kj (Field.reduce_ok (some ⟨g29,0,none⟩) 64 64 (dig (xs++ys++(ps.map Prod.snd).flatten)) (dig_len _) (qR _) (dig_bytes _) _ tO r3_13 (.inr ⟨g29,0,rfl,Qa6 r29_13,fun i hi=>QaE r29_13 (by rw [Nat.zero_add]; exact Qaw .u8 _ i (by rw [dig_len]; exact hi))⟩)) fun W14 e14=>?_
  have x14:Ext w W14:=Ext.tr x13 e14
  refine Qab (.tuple #[.agg (ints .u8 (Qao (resN (dig (xs++ys++(ps.map Prod.snd).flatten))))),.bool true]) 26 rfl kj kj ?_
  refine Qab (.agg (ints .u8 (Qao (resN (dig (xs++ys++(ps.map Prod.snd).flatten)))))) 29 rfl kj kj ?_
  refine Qab (.bool true) 30 rfl kj kj ?_
  refine Qaj (ints .u8 (List.replicate 32 0)) 23 9 rfl kj kj fun g31 W15 l31 e15 r31_15=>?_
  have x15:Ext w W15:=Ext.tr x14 e15
  have b31:w.heap.size≤g31:=qT x14.size l31
  refine Qal g31 _ (ints .u8 (Qao (resN (dig (xs++ys++(ps.map Prod.snd).flatten))))) 23 r31_15 rfl kj (Qai 23 _ _ g31 23 _ _ r31_15 rfl kj kj (isz (n:=32) kj ((Qaf _ _).trans (bytesOf_len _))) (eqsz (n:=32) ((Qaf _ _).trans (qZ (n:=32))) ((Qaf _ _).trans (bytesOf_len _))) (ints_one _ _)) fun W16 p16 r31_16=>?_
  have x16:Ext w W16:=Puts.ext p16 x15 b31
  refine Qab (.bool true) 10 rfl kj kj ?_
  refine Qag ?_
  refine hK30 _ _ ?_
  refine wp_seq_k fun K32 hK32=>?_
  refine Qad ?_
  refine Qab (.agg (ints .u8 (Qao (resN (dig (xs++ys++(ps.map Prod.snd).flatten)))))) 31 rfl kj (Qae 23 _ g31 23 _ _ r31_16 rfl kj kj (isz (n:=32) kj ((Qaf _ _).trans (bytesOf_len _)))) ?_
  have r7_2:=(Qaa r7_1 e2)
  have r7_3:=(Puts.row p3 r7_2 (Qac r7_1 l15))
  have r7_4:=(Qaa r7_3 e4)
  have r7_5:=(Qbe q5 r7_4 (Qcs hu0 r7_4 (by decide)))
  have r7_6:=(Qaa r7_5 e6)
  have r7_7:=(Puts.row p7 r7_6 (Qac r7_5 l21))
  have r7_8:=(Qaa r7_7 e8)
  have r7_9:=(Qbe q9 r7_8 (Qcs ho8_23 r7_8 (by decide)))
  have r7_10:=(Qbe q10 r7_9 (Qcs ho9_27 r7_9 (by decide)))
  have r7_11:=(Qaa r7_10 e11)
  have r7_12:=(Qaa r7_11 e12)
  have r7_13:=(Puts.row p13 r7_12 (Qac r7_11 l29))
  have r7_14:=(Qaa r7_13 e14)
  have r7_15:=(Qaa r7_14 e15)
  have r7_16:=(Puts.row p16 r7_15 (Qac r7_14 l31))
  refine Qal g7 _ (ints .u8 (Qao (resN (dig (xs++ys++(ps.map Prod.snd).flatten))))) 23 r7_16 rfl kj (Qai 23 _ _ g7 23 _ _ r7_16 rfl kj kj (isz (n:=32) kj ((Qaf _ _).trans (bytesOf_len _))) (eqsz (n:=32) ((Qaf _ _).trans (qZ (n:=32))) ((Qaf _ _).trans (bytesOf_len _))) (ints_one _ _)) fun W17 p17 r7_17=>?_
  have x17:Ext w W17:=Puts.ext p17 x16 b7
  refine Qag ?_
  refine hK32 _ _ ?_
  refine wp_ret ?_
  repeat (first | with_reducible refine goR1 ?_ | with_reducible refine goR2 ?_)
  exact (show bodyPost _ _ _ .ret _ _ from ret1 (.agg (ints .u8 (Qao (resN (dig (xs++ys++(ps.map Prod.snd).flatten)))))) rfl (Qa9 g7 23 _ r7_17 kj kj (isz (n:=32) kj ((Qaf _ _).trans (bytesOf_len _)))) ⟨rfl,x17⟩)
end Go.Proofs.YtdoadngmgmdlbaaDoor.Sgn
end
