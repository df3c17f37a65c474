/- Texts of this claim, joined (R4). -/
import Derived.Test.YtophlgnnjjkkiaaDoorZR3
import Derived.Laws.Externs
import Derived.Shelf.Spec.BitsCarry
import Derived.Shelf.Bits.Mul64
import Derived.Laws.Bits64b
import Derived.Laws.BitsAll
import Derived.Lib.SmallJoins
import Derived.Lib.LaidTab
import Derived.Deep.Strs

set_option linter.unusedVariables false
set_option linter.unusedSimpArgs false
set_option maxHeartbeats 4000000
section
namespace Go.Proofs.YtophlgnnjjkkiaaDoor.Ae
open Go Go.RowKit
open Rely Auto Own Sha
open Sha Cha
structure Once (base n : Nat) (ys : List Int) (W W' : World) : Prop where
  os:W'.os=W.os
  tape:W'.tape=W.tape
  output:W'.output=W.output
  size:W.heap.size≤W'.heap.size
  block:∀ g,g<W.heap.size→W'.heap[g]? = W.heap[g]?∨(base≤g∧∃ cs cs' T,W.heap[g]? = some (.cells cs T)∧W'.heap[g]? = some (.cells cs' T)∧cs'.size=cs.size∧∀ i,cs'[i]? = cs[i]?∨(n≤i∧cs'[i]? = some (.int .u8 (nth ys (i-n)))))
theorem Once.refl (base n:Nat) (ys:List Int) (W:World):Once base n ys W W:=⟨rfl,rfl,rfl,qR _,fun _ _=>.inl rfl⟩
theorem Once.trans {base n:Nat} {ys:List Int} {a b c:World} (h:Once base n ys a b) (k:Once base n ys b c):Once base n ys a c:=by
  refine ⟨k.os.trans h.os,k.tape.trans h.tape,k.output.trans h.output,qT h.size k.size,fun g hg=>?_⟩
  rcases k.block g (qL hg h.size) with h2 | ⟨hb,cs,cs',T,r1,r2,r3,r4⟩
  · rw [h2]; exact h.block g hg
  · rcases h.block g hg with h1 | ⟨_,ds,ds',T',s1,s2,s3,s4⟩
    · exact .inr ⟨hb,cs,cs',T,h1▸r1,r2,r3,r4⟩
    · rw [s2] at r1
      simp only [Option.some.injEq,Obj.cells.injEq] at r1
      obtain ⟨rfl,rfl,-⟩:=r1
      refine .inr ⟨hb,ds,cs',T',s1,r2,r3.trans s3,fun i=>?_⟩
      rcases r4 i with r | ⟨r,r'⟩
      · rw [r]; exact s4 i
      · exact .inr ⟨r,r'⟩
theorem Once.ext {base n:Nat} {ys:List Int} {a b:World} (e:Ext a b):Once base n ys a b:=⟨e.os,e.tape,e.output,e.size,fun g hg=>.inl (e.block g hg)⟩
theorem Once.low {n : Nat} {ys:List Int} {w0 W:World} (h:Once w0.heap.size n ys w0 W):Ext w0 W :=
  ⟨h.os,h.tape,h.output,h.size,fun g hg=>by
    rcases h.block g hg with h | ⟨hb,_⟩
    · exact h
    · omega⟩
theorem Qiz {cs : Array Value} {xs:List Int} {k:IntKind} (h:∀ i,i<xs.length→cs[i]? = some (.int k (nth xs i))):cs.toList.take xs.length=xs.map (Value.int k):=by
  apply List.ext_getElem?
  intro i
  rw [List.getElem?_take]
  by_cases hi:i<xs.length
  · rw [if_pos hi,Array.getElem?_toList,h i hi,List.getElem?_map,List.getElem?_eq_getElem hi]
    simp [nth,hi]
  · rw [if_neg hi,List.getElem?_map,List.getElem?_eq_none (by omega)]; rfl
theorem Qk8 {base n:Nat} {ys xs:List Int} {T:TypeId} (hx:∀ i,i<xs.length→n≤i→nth xs i=nth ys (i-n)):QbB (Once base n ys) (OwnN .u8 T base xs):=fun v W W' hR h=>by
  rcases Nat.eq_zero_or_pos xs.length with h0 | h0
  · obtain ⟨⟨h1,h2⟩,hm⟩:=h
    refine ⟨⟨h1,?_⟩,hm⟩
    rcases h2 with h2 | ⟨g,c,cur,rfl,q2,q3,q4,q5,q6,q7⟩
    · exact .inl h2
    · rcases hR.block g (Qau q3) with h | ⟨hb,cs,cs',T',r1,r2,r3,r4⟩
      · exact .inr ⟨g,c,cur,rfl,q2,h.trans q3,q4,q5,q6,q7⟩
      · rw [q3] at r1
        simp only [Option.some.injEq,Obj.cells.injEq] at r1
        obtain ⟨rfl,rfl,-⟩:=r1
        refine .inr ⟨g,c,cs',rfl,q2,r2,q4,q5,r3.trans q6,?_⟩
        obtain rfl:=List.length_eq_zero_iff.1 h0
        rfl
  · obtain ⟨g,c,cur,rfl,q2,q3,q4,q5,q6,q7⟩:=QdH h h0
    rcases hR.block g (Qau q3) with h2 | ⟨hb,cs,cs',T',r1,r2,r3,r4⟩
    · exact h.keep fun g' hg=>by
        obtain rfl:g=g':=Option.some.inj hg
        exact h2
    · rw [q3] at r1
      simp only [Option.some.injEq,Obj.cells.injEq] at r1
      obtain ⟨rfl,rfl,-⟩:=r1
      refine Qhw rfl q2 r2 (r3.trans q4) q5 q6 (Qiz fun i hi=>?_)
      rcases r4 i with r | ⟨r,r'⟩
      · rw [r]; exact Qfo q7 hi
      · rw [r',hx i hi r]
theorem QkU {P : Program} {T:TypeId} {b:Nat} {ρ:Operand→Value} {o:Oper} {W:World} (s x:Operand) (t:TypeId) (ho:o.op=.call { callee:=.builtin .append,args:=#[s,x],argTypes:=#[t,t] })
    (ht:P.underlying t=some (.slice T)) (hi:(P.info? T).map (fun i=>(i.zero,i.size,i.bytes))=some (some (.int .u8 0),1,b)) (hb8:b≤8) {base B n:Nat} {v y:Value} {xs ys Y:List Int} (hs:ρ s=v) (hx:ρ x=y)
    (h:OwnN .u8 T base xs v W) (hy:RdK .u8 B ys y W) (hn:xs.length+ys.length≤1000000000) (hbase:base≤W.heap.size) (hY:(∃ g,v=.slice (some ⟨g,0,none⟩) 0 0)∨(xs.length=n∧ys=Y)) :
    ∃ v' W',(execOp ρ o).run P W=.ok (.value v') W'∧Once base n Y W W'∧OwnN .u8 T base (xs++ys) v' W':=by
  obtain ⟨i,hq,hi1,hi2,hi3⟩:=QlY hi
  obtain ⟨v2,W2,r2,o2,g2,-⟩:=Qgp (ρ:=ρ) (o:=o) (W:=W) s x t ho ht hi hb8 hs hx h hy hn hbase
  refine ⟨v2,W2,r2,?_,o2⟩
  rcases h.1.2 with ⟨h0,h0'⟩ | ⟨g,c,cur,rfl,q2,q3,q4,q5,q6,q7⟩
  · exact ⟨g2.os,g2.tape,g2.output,g2.size,fun k hk=>.inl (g2.block k hk (by rw [h0]; intro e; cases e))⟩
  · have hc0:(∃ g',(Value.slice (some ⟨g,0,none⟩) xs.length c)=.slice (some ⟨g',0,none⟩) 0 0)→c=0:=fun ⟨g',e'⟩=>by
      simp only [Value.slice.injEq] at e'
      exact e'.2.2
    obtain ⟨a,cap,rfl,y2,y3,y4,y5⟩:=hy
    have hgo:∀ (v':Value) (W':World),(Builtin.append_ #[t,t] o.type #[.slice (some ⟨g,0,none⟩) xs.length c,.slice a ys.length cap]).run P W=.ok v' W'→(execOp ρ o).run P W=.ok (.value v') W':=fun v' W' hr=>by
      unfold execOp
      simp only [ho,resolve,invoke,builtin,Sem.run_bind,Sem.run_pure,Result.andThen_ok,List.map_toArray,List.map_cons,List.map_nil,hs,hx,hr]
    have same:∀ (v':Value) (W':World),(execOp ρ o).run P W=.ok (.value v') W'→W2=W':=fun v' W' hr=>by
      rw [r2] at hr
      injection hr
    refine ⟨g2.os,g2.tape,g2.output,g2.size,fun k hk=>?_⟩
    by_cases hkg:k=g
    · subst hkg
      cases a with
      | none =>
        have hc0:=y4 rfl
        have hy0:ys=[]:=List.length_eq_zero_iff.1 (by omega)
        subst hy0
        subst hc0
        exact .inl (by rw [same _ _ (hgo _ _ (run_append_owned_none (P:=P) W base t o.type T i 1 ht hq _ xs.length _ h.1))])
      | some a =>
        have hnews:∀ j u,(ys.map (Value.int .u8))[j]? = some u→W.cell? (a.add j)=some u:=by
          rcases y5 with rfl | ⟨g',o',e1,e2,e3,e4⟩
          · intro j u hu; simp at hu
          · obtain rfl:=Option.some.inj e1
            exact Qh2 e4
        by_cases hroom:xs.length+ys.length≤c
        · have hr:=run_append_room (P:=P) W t o.type T i ht hq k xs.length c cur q3 a ys.length cap (ys.map (Value.int .u8)) (by simp [hi2]) hnews (Qhx _ ys) hroom (by rw [hi2]; simp; omega)
          have hW:=same _ _ (hgo _ _ hr)
          rw [hW]
          refine .inr ⟨q2,_,_,_,q3,setRow_heap W k cur _ T _ q3,?_,fun j=>?_⟩
          · simp only [List.size_toArray,List.length_append,List.length_take,List.length_drop,List.length_map,Array.length_toList,hi2]; omega
          · simp only [List.getElem?_toArray,hi2,Nat.mul_one]
            have hl1:(List.take xs.length cur.toList).length=xs.length:=by
              have e:cur.toList.length=cur.size:=Array.length_toList
              rw [List.length_take,e]; omega
            rw [List.append_assoc]
            rcases Nat.lt_or_ge j xs.length with hj | hj
            · left
              rw [List.getElem?_append_left (by omega),List.getElem?_take,if_pos hj,Array.getElem?_toList]
            · rw [List.getElem?_append_right (by omega),hl1]
              rcases Nat.lt_or_ge (j-xs.length) ys.length with hj2 | hj2
              · right
                rcases hY with hY | ⟨rfl,rfl⟩
                · have:=hc0 hY; omega
                · refine ⟨hj,?_⟩
                  rw [List.getElem?_append_left (by rw [List.length_map]; exact hj2),List.getElem?_map,List.getElem?_eq_getElem hj2]
                  simp [nth,hj2]
              · left
                rw [List.getElem?_append_right (by rw [List.length_map]; exact hj2),List.length_map,List.getElem?_drop,Array.getElem?_toList]
                congr 1; omega
        · have holds:=h.1.cells (g:=k) rfl
          have hr:=run_append_grow (P:=P) W t o.type T i (.int .u8 0) ht hq hi1 ⟨k,0,none⟩ xs.length c (xs.map (Value.int .u8)) (by simp [hi2]) (by simpa using holds) a ys.length cap (ys.map (Value.int .u8)) (by simp [hi2]) hnews (by omega) (by omega) (growslice_fits (by omega) (by
            rw [hi3]
            have:(xs.length+ys.length)*b≤1000000000*8:=Nat.mul_le_mul hn hb8
            omega))
          have hW:=same _ _ (hgo _ _ hr)
          rw [hW]
          exact .inl (heap_alloc_old W.drew _ hk)
    · exact .inl (g2.block k hk (fun e=>hkg (Option.some.inj e)))
theorem QhH {P : Program} {ds:List Deferred} {id:Nat} {Q:Exit→Act→World→Prop} {N:Nat} {L:Env} {w:World} {l:List Oper} (R:World→World→Prop) (hrf:∀ W,R W W) (htr:∀ {a b c:World},R a b→R b c→R a c) (n:Nat) (S:List Src) (hm:P.follows .mixedOrders=true) (hok:ok l n N S=true)
    (h:∀ F:List KE→Prop,(∀ C,(∀ W,R w.drew W→finE (fun L W=>WL P l.toArray Q (l.drop n) (Qa4 ds N L) W) (l.take n) C L W)→F C)→Qbv P R w.drew N L F (l.take n) S []) :
    (Code.region id l.toArray true).wp P Q (Qa4 ds N L) w:=by
  refine Qdd R n N S hm hok (Qdj N L) hrf (fun a b=>htr a b) fun F r0 hr hF=>?_
  rw [Qci] at hr
  subst hr
  have:=h (fun C=>∀ W,R w.drew W→finE (fun L W=>WL P l.toArray Q (l.drop n) (Qa4 ds N L) W) (l.take n) C L W) (fun C h=>h)
  exact QcJ (G:=F) (fun C h=>hF.out fun W hR=>QjN (Q:=fun a W=>wpList P l.toArray Q (l.drop n) a W) _ _ _ (QdJ (fun L W h=>h.out) _ _ _ _ (h W hR))) _ _ [] this
theorem Once.below {base n:Nat} {ys:List Int} {W W':World} (h:Once base n ys W W') (hb:base≤W.heap.size):Below base W W' :=
  ⟨h.os,h.tape,h.output,h.size,fun g hg=>by
    rcases h.block g (by omega) with h | ⟨hb,_⟩
    · exact h
    · omega⟩
theorem Once.rd {base n B:Nat} {k:IntKind} {ys zs:List Int} {v:Value} {W W':World} (h:Once base n ys W W') (hr:RdK k B zs v W) (hB:B≤base):RdK k B zs v W':=hr.keep h.size fun g hg hl=>by
  rcases h.block g hl with h | ⟨hb,_⟩
  · exact h
  · omega
structure Qdh (g base n : Nat) (ys : List Int) (W W' : World) : Prop where
  once:Once base n ys W W'
  other:∀ k,k<W.heap.size→k≠g→W'.heap[k]? = W.heap[k]?
theorem Qdh.refl (g base n:Nat) (ys:List Int) (W:World):Qdh g base n ys W W:=⟨Once.refl _ _ _ _,fun _ _ _=>rfl⟩
theorem Qdh.trans {g base n:Nat} {ys:List Int} {a b c:World} (h:Qdh g base n ys a b) (k:Qdh g base n ys b c):Qdh g base n ys a c:=⟨h.once.trans k.once,fun i hi hn=>(k.other i (qL hi h.once.size) hn).trans (h.other i hi hn)⟩
theorem Qdh.ext {g base n:Nat} {ys:List Int} {a b:World} (e:Ext a b):Qdh g base n ys a b:=⟨Once.ext e,fun i hi _=>e.block i hi⟩
theorem Qdh.row {g base n:Nat} {ys:List Int} {a b:World} {k:Nat} {ob:Obj} (h:Qdh g base n ys a b) (r:a.heap[k]? = some ob) (hn:k≠g):b.heap[k]? = some ob:=(h.other k (Qau r) hn).trans r
theorem Qfm {g base n:Nat} {ys xs:List Int} {T:TypeId} (hx:∀ i,i<xs.length→n≤i→nth xs i=nth ys (i-n)):QbB (Qdh g base n ys) (OwnN .u8 T base xs):=fun v W W' hR h=>Qk8 hx v W W' hR.once h
theorem QjZ {P : Program} {T:TypeId} {ρ:Operand→Value} {o:Oper} {W:World} (s x:Operand) (t:TypeId) (ho:o.op=.call { callee:=.builtin .append,args:=#[s,x],argTypes:=#[t,t] })
    (ht:P.underlying t=some (.slice T)) (hi:(P.info? T).map (fun i=>(i.zero,i.size,i.bytes))=some (some (.int .u8 0),1,1)) {g c base B:Nat} {y:Value} {xs ys:List Int} (hs:ρ s=.slice (some ⟨g,0,none⟩) xs.length c) (hx:ρ x=y)
    (h:OwnN .u8 T base xs (.slice (some ⟨g,0,none⟩) xs.length c) W) (hy:RdK .u8 B ys y W) (hn:xs.length+ys.length≤1000000000) (hbase:base≤W.heap.size) :
    ∃ v' W',(execOp ρ o).run P W=.ok (.value v') W'∧Qdh g base xs.length ys W W'∧OwnN .u8 T base (xs++ys) v' W':=by
  obtain ⟨v',W',r,q,p⟩:=QkU (ρ:=ρ) (o:=o) (W:=W) (n:=xs.length) (Y:=ys) (b:=1) s x t ho ht hi (by decide) hs hx h hy hn hbase (.inr ⟨rfl,rfl⟩)
  obtain ⟨v2,W2,r2,o2,g2,-⟩:=Qgp (ρ:=ρ) (o:=o) (W:=W) (b:=1) s x t ho ht hi (by decide) hs hx h hy hn hbase
  rw [r] at r2
  injection r2 with _ r3
  subst r3
  exact ⟨v',W',r,⟨q,fun k hk hn=>g2.block k hk (fun e=>hn (Option.some.inj e))⟩,p⟩
section
variable {P : Program} {R : World → World → Prop} {w0 : World} {N : Nat} {L : Env} {F : List KE → Prop} {o : Oper} {os : List Oper} {s : Src} {ss : List Src} {C : List KE}
theorem Qmx (φ : Fact) (hφ:QbB R φ) {rd:List (Tmp×Option Nat)}
    (h:∀ (ρ:Tmp→Value) (W:World),R w0 W→QcH (envN N L) (C.map KE.fact) ρ W rd→∃ v W',(execOp (Rely.look ρ) o).run P W=.ok (.value v) W'∧R W W'∧φ v W')
    (hk:Qbv P R w0 N L F os ss (C++[.ex φ])):Qbv P R w0 N L F (o::os) (⟨none,rd⟩::ss) C :=
  ⟨.ex φ,hφ,fun ρ W hR hh=>by
    obtain ⟨v,W',h1,h2,h3⟩:=h ρ W hR hh
    show Qcq _ _ _ _ _
    rw [h1]
    exact ⟨h2,h3⟩,hk⟩
theorem Qke (hrf : ∀ W,R W W) (hre:∀ {A B:World},Ext A B→R A B) (φ:Fact) (hφ:QbB R φ) (f:FuncId) {rd:List (Tmp×Option Nat)}
    (h:∀ (ρ:Tmp→Value) (W:World),R w0 W→QcH (envN N L) (C.map KE.fact) ρ W rd→∃ args,(execOp (Rely.look ρ) o).run P W=.ok (.enter f args) W∧Calls P f args W (Qb8 W φ))
    (hk:Qbv P R w0 N L F os ss (C++[.ex φ])):Qbv P R w0 N L F (o::os) (⟨none,rd⟩::ss) C :=
  ⟨.ex φ,hφ,fun ρ W hR hh=>by
    obtain ⟨args,h1,h2⟩:=h ρ W hR hh
    show Qcq _ _ _ _ _
    rw [h1]
    exact ⟨hrf _,h2.mono fun _ _ h=>QhS h.fact (fun e=>hre e)⟩,hk⟩
end
theorem QiT {n : Nat} {W W':World} (h:Below n W.drew W') (hn:n≤W.heap.size):Below n W W':=Below.trans ((Qak W).mono hn) h
end Go.Proofs.YtophlgnnjjkkiaaDoor.Ae
end
section
namespace Go.Proofs.YtophlgnnjjkkiaaDoor.Cha
open Go Go.RowKit
open Rely Auto Own Sha
open Sha
theorem QmE (x : Wd) (n:Nat) (h:0<n) (hn:n<32):x<<<n+x>>>(32-n)=rl x n:=by
  have h2:=Qm2 x (32-n) (by omega) (by omega)
  rw [show 32-(32-n)=n by omega] at h2
  rw [BitVec.add_comm,h2]
  unfold rr rl
  rw [show 32-(32-n)=n by omega]
def rs1 (x : List Wd) (a b:Nat):List Wd:=x.set a (wget x a+wget x b)
def rs2 (x : List Wd) (d a n:Nat):List Wd:=x.set d (rl (wget x d^^^wget x a) n)
def rqrt (x : List Wd) (a b c d:Nat):List Wd:=rs2 (rs1 (rs2 (rs1 (rs2 (rs1 (rs2 (rs1 x a b) d a 16) c d) b c 12) a b) d a 8) c d) b c 7
theorem Qgb (x : List Wd) (a b:Nat):(rs1 x a b).length=x.length:=List.length_set ..
theorem Qga (x : List Wd) (d a n:Nat):(rs2 x d a n).length=x.length:=List.length_set ..
theorem mulW (x : Wd) (m:Int) (k:Nat) (hm:m=2^k) (hk:k≤32):IntKind.u32.wrap (m*wv x)=wv (x<<<k):=by
  subst hm
  have h:=Qgw x (k:Int) k rfl hk
  have e:min ((k:Int)).toNat IntKind.u32.bits=k:=by show min ((k:Int)).toNat 32=k; omega
  rw [e] at h
  rw [Int.mul_comm]
  exact h
def rw4 (b : List Int) (i:Nat):Wd:=(BitVec.ofInt 32 (nth b (4*i))+BitVec.ofInt 32 (nth b (4*i+1))<<<8)+BitVec.ofInt 32 (nth b (4*i+2))<<<16+BitVec.ofInt 32 (nth b (4*i+3))<<<24
def rws (b : List Int) (n:Nat):List Wd:=(List.range n).map (rw4 b)
def rwords (b : List Int):List Wd:=rws b (b.length/4)
theorem Qjj (b : List Int) (n:Nat):(rws b n).length=n:=by simp [rws]
theorem Qkt (b : List Int) (n:Nat):(rws b (n+1)).map wv=(rws b n).map wv++[wv (rw4 b n)]:=by simp [rws,List.range_succ]
theorem QfE (n : Int) (h:0≤n∧n<256):(BitVec.ofInt 32 n).toNat=n.toNat:=by
  rw [BitVec.toNat_ofInt]
  omega
theorem or4 (x y z t:Nat) (hx:x<256) (hy:y<256) (hz:z<256):x|||y<<<8|||z<<<16|||t<<<24=x+y<<<8+z<<<16+t<<<24:=by
  have h1:x|||y<<<8=x+y<<<8:=by
    rw [Nat.or_comm,←Nat.shiftLeft_add_eq_or_of_lt (show x<2^8 by omega),Nat.add_comm]
  have l1:x+y<<<8<2^16:=by rw [Nat.shiftLeft_eq]; omega
  have h2:(x+y<<<8)|||z<<<16=x+y<<<8+z<<<16:=by
    rw [Nat.or_comm,←Nat.shiftLeft_add_eq_or_of_lt l1,Nat.add_comm]
  have l2:x+y<<<8+z<<<16<2^24:=by rw [Nat.shiftLeft_eq,Nat.shiftLeft_eq]; omega
  rw [h1,h2,Nat.or_comm,←Nat.shiftLeft_add_eq_or_of_lt l2,Nat.add_comm]
theorem QfW (n : Int) (k:Nat) (h:0≤n∧n<256) (hk:k≤24):(BitVec.ofInt 32 n<<<k).toNat=n.toNat<<<k:=by
  rw [BitVec.toNat_shiftLeft,QfE n h,Nat.mod_eq_of_lt]
  rw [Nat.shiftLeft_eq]
  have h1:n.toNat<256:=by omega
  have h2:2^k≤2^24:=Nat.pow_le_pow_right (by decide) hk
  exact Nat.lt_of_le_of_lt (Nat.mul_le_mul (Nat.le_of_lt_succ h1) h2) (by decide)
theorem Qle (b : List Int) (i:Nat) (hb:∀ j,0≤nth b j∧nth b j<256):rw4 b i=le4 (sub4 b i):=by
  unfold rw4 le4
  rw [Qem b i 0 (by decide),Qem b i 1 (by decide),Qem b i 2 (by decide),Qem b i 3 (by decide)]
  simp only [Nat.add_zero]
  have h0:=hb (4*i)
  have h1:=hb (4*i+1)
  have h2:=hb (4*i+2)
  have h3:=hb (4*i+3)
  apply BitVec.eq_of_toNat_eq
  simp only [BitVec.toNat_add,BitVec.toNat_or,QfE _ h0,QfW _ 8 h1 (by decide),QfW _ 16 h2 (by decide),QfW _ 24 h3 (by decide)]
  rw [or4 _ _ _ _ (by omega) (by omega) (by omega)]
  simp only [Nat.shiftLeft_eq]
  omega
theorem QgG : ∀ x:List Wd,x.length=16→rqrt x 0 4 8 12=qrt x 0 4 8 12∧rqrt x 1 5 9 13=qrt x 1 5 9 13∧rqrt x 2 6 10 14=qrt x 2 6 10 14∧rqrt x 3 7 11 15=qrt x 3 7 11 15∧rqrt x 0 5 10 15=qrt x 0 5 10 15∧rqrt x 1 6 11 12=qrt x 1 6 11 12∧rqrt x 2 7 8 13=qrt x 2 7 8 13∧rqrt x 3 4 9 14=qrt x 3 4 9 14
  | [x0,x1,x2,x3,x4,x5,x6,x7,x8,x9,x10,x11,x12,x13,x14,x15],_=>⟨by kernel_rfl,by kernel_rfl,by kernel_rfl,by kernel_rfl,by kernel_rfl,by kernel_rfl,by kernel_rfl,by kernel_rfl⟩
theorem QhR (x : Wd) (n:Nat) (m:Int) (hm:m=(n:Int)) (h0:0<n) (hn:n<32) (w:World):Calls Tryd.prog 89 #[.int .u32 (wv x),.int .u64 m] w (Ret w (.int .u32 (wv (rl x n)))):=by
  subst hm
  refine enter 13 [(0,.int .u32 (wv x)),(1,.int .u64 ((n:Nat):Int))] Tryd.func89 rfl rfl kj rfl <| sgB kj <| sgC fun K2 hK2=>sg 2 kj <| Qab (.int .u32 (wv (x<<<n))) 7 rfl kj (Qbp .shl _ _ _ _ .u32 .u64 _ _ _ rfl kj kj (Qf1 _ _ _ _ _ _ (by omega) (Qgw x _ n rfl (by omega)))) <| sg 2 kj <| Qab (.int .u64 (((32-n:Nat):Int))) 10 rfl kj (Qaf (u:=.int .u64 (IntKind.u64.wrap (32-((n:Nat):Int)))) kj (congrArg (Value.int .u64) (QhL n hn))) <| Qab (.int .u32 (wv (x>>>(32-n)))) 11 rfl kj (Qbp .shr _ _ _ _ .u32 .u64 _ _ _ rfl kj kj (Qdx _ _ _ _ _ _ (by omega) (Qgv x _ (32-n) rfl (by omega)))) <| Qab (.int .u32 (wv (rl x n))) 12 rfl kj (Qaf (u:=.int .u32 (IntKind.u32.wrap ((wv (x<<<n))+(wv (x>>>(32-n)))))) kj (congrArg (Value.int .u32) ((QcF _ _).trans (congrArg wv (QmE x n h0 hn))))) <| sg 1 kj ?_
  refine sgN hK2 <| wp_ret ?_
  repeat (first | with_reducible refine goR1 ?_ | with_reducible refine goR2 ?_)
  exact (show bodyPost _ _ _ .ret _ _ from ret1 (.int .u32 (wv (rl x n))) rfl (Qa0 kj) ⟨rfl,(Rely.Ext.refl w)⟩)
set_option maxRecDepth 100000 in
theorem QcD (g cc:Nat) (rest:Array Value) (x:List Wd) (a b c d:Nat) (ma mb mc md:Int) (w:World) (ea:ma=(a:Int)) (eb:mb=(b:Int)) (ec:mc=(c:Int)) (ed:md=(d:Int)) (hx:x.length=16) (ha:a<16) (hb:b<16) (hc:c<16) (hd:d<16) (hg:w.heap[g]? = some (.cells (ints .u32 (x.map wv)++rest) 88)) :
    Calls Tryd.prog 77 #[.slice (some ⟨g,0,none⟩) 16 cc,.int .i64 ma,.int .i64 mb,.int .i64 mc,.int .i64 md] w (fun e W=>e=.returned (.tuple #[])∧ExtB g w W∧W.heap[g]? = some (.cells (ints .u32 ((rqrt x a b c d).map wv)++rest) 88)):=by
  subst ea eb ec ed
  refine enter 76 [(0,.slice (some ⟨g,0,none⟩) 16 cc),(1,.int .i64 ((a:Nat):Int)),(2,.int .i64 ((b:Nat):Int)),(3,.int .i64 ((c:Nat):Int)),(4,.int .i64 ((d:Nat):Int))] Tryd.func77 rfl rfl kj rfl <| sgC fun K2 hK2=>Qa7 (ints .u64 ([16,12,8,7])) 94 4 12 rfl kj kj fun g3 W1 l3 e1 r3_1=>?_
  have b3:=qT (ExtB.refl g w).size l3
  refine sg 1 kj <| sgN hK2 <| sgB kj <| wp_block <| wp_loop_rounds 3 ?_
  show Code.wp _ _ (Exit.then (Code.rounds _ _ _ 2) _) _ _
  refine wp_seq_k fun K5 hK5=>sgB kj <| cond_true kj <| wp_skip <| hK5 _ _ <| wp_seq_k fun K7 hK7=>wp_block <| wp_seq_k fun K8 hK8=>QaX 12 [⟨none,[(0,none)]⟩,⟨none,[(1,none)]⟩,⟨none,[(0,none)]⟩,⟨none,[(1,none)]⟩,⟨none,[(19,some 2),(20,some 3)]⟩,⟨none,[(21,some 4)]⟩,⟨none,[(0,none)]⟩,⟨none,[(2,none)]⟩,⟨none,[(23,some 6),(24,some 7)]⟩,⟨none,[(25,some 8)]⟩,⟨none,[(22,some 5),(26,some 9)]⟩,⟨none,[(17,some 0),(18,some 1)]⟩] kj kj fun F hF=>Qam (.slice (some ⟨g,0,none⟩) 16 cc) kj kj (fun W=>by kernel_rfl) ?_
  refine Qam (.int .i64 ((a:Nat):Int)) kj kj (fun W=>by kernel_rfl) <| Qam (.slice (some ⟨g,0,none⟩) 16 cc) kj kj (fun W=>by kernel_rfl) <| Qam (.int .i64 ((a:Nat):Int)) kj kj (fun W=>by kernel_rfl) <| Qam (.pointer (some ⟨g,a,none⟩)) kj kj (fun W=>(Qaw 124 _ _ .i64 (a) g 16 cc 88 rfl kj kj kj kj (by omega))) ?_
  have r1_1:=(Qaa hg e1)
  refine QaG (.int .u32 (wv (wget x a))) kj kj (fun W hR=>(Qah 88 _ g a 88 _ (.int .u32 (wv (wget x a))) _ (Qaa (Qaa r1_1 (Qak _)) hR) rfl kj ((Qbc (Nat.lt_of_lt_of_eq (by omega) (Qbi hx).symm)).trans (congrArg (fun z=>some (Value.int .u32 z)) (Qbh x a))) kj)) <| Qam (.slice (some ⟨g,0,none⟩) 16 cc) kj kj (fun W=>by kernel_rfl) <| Qam (.int .i64 ((b:Nat):Int)) kj kj (fun W=>by kernel_rfl) <| Qam (.pointer (some ⟨g,b,none⟩)) kj kj (fun W=>(Qaw 124 _ _ .i64 (b) g 16 cc 88 rfl kj kj kj kj (by omega))) <| QaG (.int .u32 (wv (wget x b))) kj kj (fun W hR=>(Qah 88 _ g b 88 _ (.int .u32 (wv (wget x b))) _ (Qaa (Qaa r1_1 (Qak _)) hR) rfl kj ((Qbc (Nat.lt_of_lt_of_eq (by omega) (Qbi hx).symm)).trans (congrArg (fun z=>some (Value.int .u32 z)) (Qbh x b))) kj)) <| Qam (.int .u32 (wv (((wget x a))+((wget x b))))) kj kj (fun W=>(Qaf kj (congrArg (Value.int .u32) (QcF _ _)))) <| Qam (.pointer (some ⟨g,a,none⟩)) kj kj (fun W=>(Qaw 124 _ _ .i64 (a) g 16 cc 88 rfl kj kj kj kj (by omega))) <| Qbg (hF _ kj fun W2 e2=>?_)
  simp only [ups,up,Kn.val,List.take_succ_cons,List.take_zero,List.drop_succ_cons,List.drop_zero,List.nil_append,List.cons_append]
  clear hF
  have r1_2:=(Qaa r1_1 e2)
  refine Qal g _ (ints .u32 (((x).set a ((((wget x a))+((wget x b))))).map wv)++rest) 88 r1_2 rfl kj (Qb9 88 _ _ g a 88 _ x ((((wget x a))+((wget x b)))) r1_2 rfl kj kj kj (Nat.lt_of_lt_of_eq (by omega) (Qbi hx).symm)) fun W3 p3 r1_3=>?_
  obtain ⟨xq1,ex1⟩:∃ z:List Wd,z=rs1 x a b:=⟨_,rfl⟩
  have hx1:xq1.length=16:=by rw [ex1,Qgb,hx]
  have r1_3_9:W3.heap[g]? = some (.cells (ints .u32 ((xq1).map wv)++rest) 88):=Qbw r1_3 (by rw [ex1]; rfl)
  refine sgN hK8 <| wp_seq_k fun K10 hK10=>QaX 17 [⟨none,[(0,none)]⟩,⟨none,[(4,none)]⟩,⟨none,[(0,none)]⟩,⟨none,[(4,none)]⟩,⟨none,[(31,some 2),(32,some 3)]⟩,⟨none,[(33,some 4)]⟩,⟨none,[(0,none)]⟩,⟨none,[(1,none)]⟩,⟨none,[(35,some 6),(36,some 7)]⟩,⟨none,[(37,some 8)]⟩,⟨none,[(34,some 5),(38,some 9)]⟩,⟨none,[(10,none)]⟩,⟨none,[(11,none)]⟩,⟨none,[(40,some 11),(41,some 12)]⟩,⟨none,[(42,some 13)]⟩,⟨none,[(39,some 10),(43,some 14)]⟩,⟨none,[(29,some 0),(30,some 1)]⟩] kj kj fun F hF=>Qam (.slice (some ⟨g,0,none⟩) 16 cc) kj kj (fun W=>by kernel_rfl) <| Qam (.int .i64 ((d:Nat):Int)) kj kj (fun W=>by kernel_rfl) <| Qam (.slice (some ⟨g,0,none⟩) 16 cc) kj kj (fun W=>by kernel_rfl) <| Qam (.int .i64 ((d:Nat):Int)) kj kj (fun W=>by kernel_rfl) <| Qam (.pointer (some ⟨g,d,none⟩)) kj kj (fun W=>(Qaw 124 _ _ .i64 (d) g 16 cc 88 rfl kj kj kj kj (by omega))) <| QaG (.int .u32 (wv (wget xq1 d))) kj kj (fun W hR=>(Qah 88 _ g d 88 _ (.int .u32 (wv (wget xq1 d))) _ (Qaa (Qaa r1_3_9 (Qak _)) hR) rfl kj ((Qbc (Nat.lt_of_lt_of_eq (by omega) (Qbi hx1).symm)).trans (congrArg (fun z=>some (Value.int .u32 z)) (Qbh xq1 d))) kj)) <| Qam (.slice (some ⟨g,0,none⟩) 16 cc) kj kj (fun W=>by kernel_rfl) ?_
  refine Qam (.int .i64 ((a:Nat):Int)) kj kj (fun W=>by kernel_rfl) <| Qam (.pointer (some ⟨g,a,none⟩)) kj kj (fun W=>(Qaw 124 _ _ .i64 (a) g 16 cc 88 rfl kj kj kj kj (by omega))) <| QaG (.int .u32 (wv (wget xq1 a))) kj kj (fun W hR=>(Qah 88 _ g a 88 _ (.int .u32 (wv (wget xq1 a))) _ (Qaa (Qaa r1_3_9 (Qak _)) hR) rfl kj ((Qbc (Nat.lt_of_lt_of_eq (by omega) (Qbi hx1).symm)).trans (congrArg (fun z=>some (Value.int .u32 z)) (Qbh xq1 a))) kj)) <| Qam (.int .u32 (wv (((wget xq1 d))^^^((wget xq1 a))))) kj kj (fun W=>(Qaf kj (congrArg (Value.int .u32) (w_xor _ _)))) <| Qam (.slice (some ⟨g3,0,none⟩) 4 4) kj kj (fun W=>by kernel_rfl) <| Qam (.int .i64 0) kj kj (fun W=>by kernel_rfl) <| Qam (.pointer (some ⟨g3,0,none⟩)) kj kj (fun W=>(Qaw 146 _ _ .i64 (0) g3 4 4 94 rfl kj kj kj kj (by decide))) ?_
  have r3_3:=(Puts.row p3 (Qaa r3_1 e2) (Qa2 hg l3))
  refine QaG (.int .u64 16) kj kj (fun W hR=>(Qah 94 _ g3 0 94 _ (.int .u64 16) _ (Qaa (Qaa r3_3 (Qak _)) hR) rfl kj kj kj)) <| Qc4 (.int .u32 (wv (rl (((wget xq1 d))^^^((wget xq1 a))) 16))) 89 #[.int .u32 (wv (((wget xq1 d))^^^((wget xq1 a)))),.int .u64 16] kj kj (fun W=>by kernel_rfl) (fun W hR=>(QhR (((wget xq1 d))^^^((wget xq1 a))) 16 16 rfl (by decide) (by decide)) W) <| Qam (.pointer (some ⟨g,d,none⟩)) kj kj (fun W=>(Qaw 124 _ _ .i64 (d) g 16 cc 88 rfl kj kj kj kj (by omega))) <| Qbg (hF _ kj fun W4 e4=>?_)
  simp only [ups,up,Kn.val,List.take_succ_cons,List.take_zero,List.drop_succ_cons,List.drop_zero,List.nil_append,List.cons_append]
  clear hF
  have r1_4:=(Qaa r1_3_9 e4)
  refine Qal g _ (ints .u32 (((xq1).set d ((rl (((wget xq1 d))^^^((wget xq1 a))) 16))).map wv)++rest) 88 r1_4 rfl kj (Qb9 88 _ _ g d 88 _ xq1 ((rl (((wget xq1 d))^^^((wget xq1 a))) 16)) r1_4 rfl kj kj kj (Nat.lt_of_lt_of_eq (by omega) (Qbi hx1).symm)) fun W5 p5 r1_5=>?_
  obtain ⟨xq2,ex2⟩:∃ z:List Wd,z=rs2 xq1 d a 16:=⟨_,rfl⟩
  have hx2:xq2.length=16:=by rw [ex2,Qga,hx1]
  have r1_5_11:W5.heap[g]? = some (.cells (ints .u32 ((xq2).map wv)++rest) 88):=Qbw r1_5 (by rw [ex2]; rfl)
  refine sgN hK10 <| wp_seq_k fun K12 hK12=>QaX 12 [⟨none,[(0,none)]⟩,⟨none,[(3,none)]⟩,⟨none,[(0,none)]⟩,⟨none,[(3,none)]⟩,⟨none,[(48,some 2),(49,some 3)]⟩,⟨none,[(50,some 4)]⟩,⟨none,[(0,none)]⟩,⟨none,[(4,none)]⟩,⟨none,[(52,some 6),(53,some 7)]⟩,⟨none,[(54,some 8)]⟩,⟨none,[(51,some 5),(55,some 9)]⟩,⟨none,[(46,some 0),(47,some 1)]⟩] kj kj fun F hF=>Qam (.slice (some ⟨g,0,none⟩) 16 cc) kj kj (fun W=>by kernel_rfl) <| Qam (.int .i64 ((c:Nat):Int)) kj kj (fun W=>by kernel_rfl) <| Qam (.slice (some ⟨g,0,none⟩) 16 cc) kj kj (fun W=>by kernel_rfl) <| Qam (.int .i64 ((c:Nat):Int)) kj kj (fun W=>by kernel_rfl) <| Qam (.pointer (some ⟨g,c,none⟩)) kj kj (fun W=>(Qaw 124 _ _ .i64 (c) g 16 cc 88 rfl kj kj kj kj (by omega))) <| QaG (.int .u32 (wv (wget xq2 c))) kj kj (fun W hR=>(Qah 88 _ g c 88 _ (.int .u32 (wv (wget xq2 c))) _ (Qaa (Qaa r1_5_11 (Qak _)) hR) rfl kj ((Qbc (Nat.lt_of_lt_of_eq (by omega) (Qbi hx2).symm)).trans (congrArg (fun z=>some (Value.int .u32 z)) (Qbh xq2 c))) kj)) <| Qam (.slice (some ⟨g,0,none⟩) 16 cc) kj kj (fun W=>by kernel_rfl) ?_
  refine Qam (.int .i64 ((d:Nat):Int)) kj kj (fun W=>by kernel_rfl) <| Qam (.pointer (some ⟨g,d,none⟩)) kj kj (fun W=>(Qaw 124 _ _ .i64 (d) g 16 cc 88 rfl kj kj kj kj (by omega))) <| QaG (.int .u32 (wv (wget xq2 d))) kj kj (fun W hR=>(Qah 88 _ g d 88 _ (.int .u32 (wv (wget xq2 d))) _ (Qaa (Qaa r1_5_11 (Qak _)) hR) rfl kj ((Qbc (Nat.lt_of_lt_of_eq (by omega) (Qbi hx2).symm)).trans (congrArg (fun z=>some (Value.int .u32 z)) (Qbh xq2 d))) kj)) <| Qam (.int .u32 (wv (((wget xq2 c))+((wget xq2 d))))) kj kj (fun W=>(Qaf kj (congrArg (Value.int .u32) (QcF _ _)))) <| Qam (.pointer (some ⟨g,c,none⟩)) kj kj (fun W=>(Qaw 124 _ _ .i64 (c) g 16 cc 88 rfl kj kj kj kj (by omega))) <| Qbg (hF _ kj fun W6 e6=>?_)
  simp only [ups,up,Kn.val,List.take_succ_cons,List.take_zero,List.drop_succ_cons,List.drop_zero,List.nil_append,List.cons_append]
  clear hF
  have r1_6:=(Qaa r1_5_11 e6)
  refine Qal g _ (ints .u32 (((xq2).set c ((((wget xq2 c))+((wget xq2 d))))).map wv)++rest) 88 r1_6 rfl kj (Qb9 88 _ _ g c 88 _ xq2 ((((wget xq2 c))+((wget xq2 d)))) r1_6 rfl kj kj kj (Nat.lt_of_lt_of_eq (by omega) (Qbi hx2).symm)) fun W7 p7 r1_7=>?_
  obtain ⟨xq3,ex3⟩:∃ z:List Wd,z=rs1 xq2 c d:=⟨_,rfl⟩
  have hx3:xq3.length=16:=by rw [ex3,Qgb,hx2]
  have r1_7_13:W7.heap[g]? = some (.cells (ints .u32 ((xq3).map wv)++rest) 88):=Qbw r1_7 (by rw [ex3]; rfl)
  refine sgN hK12 <| QaX 18 [⟨none,[(0,none)]⟩,⟨none,[(2,none)]⟩,⟨none,[(0,none)]⟩,⟨none,[(2,none)]⟩,⟨none,[(60,some 2),(61,some 3)]⟩,⟨none,[(62,some 4)]⟩,⟨none,[(0,none)]⟩,⟨none,[(3,none)]⟩,⟨none,[(64,some 6),(65,some 7)]⟩,⟨none,[(66,some 8)]⟩,⟨none,[(63,some 5),(67,some 9)]⟩,⟨none,[(10,none)]⟩,⟨none,[(11,none)]⟩,⟨none,[(70,some 12)]⟩,⟨none,[(69,some 11),(71,some 13)]⟩,⟨none,[(72,some 14)]⟩,⟨none,[(68,some 10),(73,some 15)]⟩,⟨none,[(58,some 0),(59,some 1)]⟩] kj kj fun F hF=>Qam (.slice (some ⟨g,0,none⟩) 16 cc) kj kj (fun W=>by kernel_rfl) <| Qam (.int .i64 ((b:Nat):Int)) kj kj (fun W=>by kernel_rfl) <| Qam (.slice (some ⟨g,0,none⟩) 16 cc) kj kj (fun W=>by kernel_rfl) <| Qam (.int .i64 ((b:Nat):Int)) kj kj (fun W=>by kernel_rfl) <| Qam (.pointer (some ⟨g,b,none⟩)) kj kj (fun W=>(Qaw 124 _ _ .i64 (b) g 16 cc 88 rfl kj kj kj kj (by omega))) <| QaG (.int .u32 (wv (wget xq3 b))) kj kj (fun W hR=>(Qah 88 _ g b 88 _ (.int .u32 (wv (wget xq3 b))) _ (Qaa (Qaa r1_7_13 (Qak _)) hR) rfl kj ((Qbc (Nat.lt_of_lt_of_eq (by omega) (Qbi hx3).symm)).trans (congrArg (fun z=>some (Value.int .u32 z)) (Qbh xq3 b))) kj)) <| Qam (.slice (some ⟨g,0,none⟩) 16 cc) kj kj (fun W=>by kernel_rfl) <| Qam (.int .i64 ((c:Nat):Int)) kj kj (fun W=>by kernel_rfl) ?_
  refine Qam (.pointer (some ⟨g,c,none⟩)) kj kj (fun W=>(Qaw 124 _ _ .i64 (c) g 16 cc 88 rfl kj kj kj kj (by omega))) <| QaG (.int .u32 (wv (wget xq3 c))) kj kj (fun W hR=>(Qah 88 _ g c 88 _ (.int .u32 (wv (wget xq3 c))) _ (Qaa (Qaa r1_7_13 (Qak _)) hR) rfl kj ((Qbc (Nat.lt_of_lt_of_eq (by omega) (Qbi hx3).symm)).trans (congrArg (fun z=>some (Value.int .u32 z)) (Qbh xq3 c))) kj)) <| Qam (.int .u32 (wv (((wget xq3 b))^^^((wget xq3 c))))) kj kj (fun W=>(Qaf kj (congrArg (Value.int .u32) (w_xor _ _)))) <| Qam (.slice (some ⟨g3,0,none⟩) 4 4) kj kj (fun W=>by kernel_rfl) <| Qam (.int .i64 0) kj kj (fun W=>by kernel_rfl) <| Qam (.int .i64 1) kj kj (fun W=>by kernel_rfl) <| Qam (.pointer (some ⟨g3,1,none⟩)) kj kj (fun W=>(Qaw 146 _ _ .i64 (1) g3 4 4 94 rfl kj kj kj kj (by decide))) ?_
  have r3_7:=(Puts.row p7 (Qaa (Puts.row p5 (Qaa r3_3 e4) (Qa2 hg l3)) e6) (Qa2 hg l3))
  refine QaG (.int .u64 12) kj kj (fun W hR=>(Qah 94 _ g3 1 94 _ (.int .u64 12) _ (Qaa (Qaa r3_7 (Qak _)) hR) rfl kj kj kj)) <| Qc4 (.int .u32 (wv (rl (((wget xq3 b))^^^((wget xq3 c))) 12))) 89 #[.int .u32 (wv (((wget xq3 b))^^^((wget xq3 c)))),.int .u64 12] kj kj (fun W=>by kernel_rfl) (fun W hR=>(QhR (((wget xq3 b))^^^((wget xq3 c))) 12 12 rfl (by decide) (by decide)) W) <| Qam (.pointer (some ⟨g,b,none⟩)) kj kj (fun W=>(Qaw 124 _ _ .i64 (b) g 16 cc 88 rfl kj kj kj kj (by omega))) <| Qbg (hF _ kj fun W8 e8=>?_)
  simp only [ups,up,Kn.val,List.take_succ_cons,List.take_zero,List.drop_succ_cons,List.drop_zero,List.nil_append,List.cons_append]
  clear hF
  have r1_8:=(Qaa r1_7_13 e8)
  refine Qal g _ (ints .u32 (((xq3).set b ((rl (((wget xq3 b))^^^((wget xq3 c))) 12))).map wv)++rest) 88 r1_8 rfl kj (Qb9 88 _ _ g b 88 _ xq3 ((rl (((wget xq3 b))^^^((wget xq3 c))) 12)) r1_8 rfl kj kj kj (Nat.lt_of_lt_of_eq (by omega) (Qbi hx3).symm)) fun W9 p9 r1_9=>?_
  obtain ⟨xq4,ex4⟩:∃ z:List Wd,z=rs2 xq3 b c 12:=⟨_,rfl⟩
  have hx4:xq4.length=16:=by rw [ex4,Qga,hx3]
  have r1_9_14:W9.heap[g]? = some (.cells (ints .u32 ((xq4).map wv)++rest) 88):=Qbw r1_9 (by rw [ex4]; rfl)
  refine Qao <| hK7 _ _ <| sgA kj ?_
  show Code.rounds _ _ _ 2 _ _
  show Code.wp _ _ (Exit.then (Code.rounds _ _ _ 1) _) _ _
  refine wp_seq_k fun K15 hK15=>sgB kj <| cond_true kj <| wp_skip <| hK15 _ _ <| wp_seq_k fun K17 hK17=>wp_block <| wp_seq_k fun K18 hK18=>QaX 12 [⟨none,[(0,none)]⟩,⟨none,[(1,none)]⟩,⟨none,[(0,none)]⟩,⟨none,[(1,none)]⟩,⟨none,[(19,some 2),(20,some 3)]⟩,⟨none,[(21,some 4)]⟩,⟨none,[(0,none)]⟩,⟨none,[(2,none)]⟩,⟨none,[(23,some 6),(24,some 7)]⟩,⟨none,[(25,some 8)]⟩,⟨none,[(22,some 5),(26,some 9)]⟩,⟨none,[(17,some 0),(18,some 1)]⟩] kj kj fun F hF=>Qam (.slice (some ⟨g,0,none⟩) 16 cc) kj kj (fun W=>by kernel_rfl) ?_
  refine Qam (.int .i64 ((a:Nat):Int)) kj kj (fun W=>by kernel_rfl) <| Qam (.slice (some ⟨g,0,none⟩) 16 cc) kj kj (fun W=>by kernel_rfl) <| Qam (.int .i64 ((a:Nat):Int)) kj kj (fun W=>by kernel_rfl) <| Qam (.pointer (some ⟨g,a,none⟩)) kj kj (fun W=>(Qaw 124 _ _ .i64 (a) g 16 cc 88 rfl kj kj kj kj (by omega))) <| QaG (.int .u32 (wv (wget xq4 a))) kj kj (fun W hR=>(Qah 88 _ g a 88 _ (.int .u32 (wv (wget xq4 a))) _ (Qaa (Qaa r1_9_14 (Qak _)) hR) rfl kj ((Qbc (Nat.lt_of_lt_of_eq (by omega) (Qbi hx4).symm)).trans (congrArg (fun z=>some (Value.int .u32 z)) (Qbh xq4 a))) kj)) <| Qam (.slice (some ⟨g,0,none⟩) 16 cc) kj kj (fun W=>by kernel_rfl) <| Qam (.int .i64 ((b:Nat):Int)) kj kj (fun W=>by kernel_rfl) <| Qam (.pointer (some ⟨g,b,none⟩)) kj kj (fun W=>(Qaw 124 _ _ .i64 (b) g 16 cc 88 rfl kj kj kj kj (by omega))) <| QaG (.int .u32 (wv (wget xq4 b))) kj kj (fun W hR=>(Qah 88 _ g b 88 _ (.int .u32 (wv (wget xq4 b))) _ (Qaa (Qaa r1_9_14 (Qak _)) hR) rfl kj ((Qbc (Nat.lt_of_lt_of_eq (by omega) (Qbi hx4).symm)).trans (congrArg (fun z=>some (Value.int .u32 z)) (Qbh xq4 b))) kj)) <| Qam (.int .u32 (wv (((wget xq4 a))+((wget xq4 b))))) kj kj (fun W=>(Qaf kj (congrArg (Value.int .u32) (QcF _ _)))) ?_
  refine Qam (.pointer (some ⟨g,a,none⟩)) kj kj (fun W=>(Qaw 124 _ _ .i64 (a) g 16 cc 88 rfl kj kj kj kj (by omega))) <| Qbg (hF _ kj fun W10 e10=>?_)
  simp only [ups,up,Kn.val,List.take_succ_cons,List.take_zero,List.drop_succ_cons,List.drop_zero,List.nil_append,List.cons_append]
  clear hF
  have r1_10:=(Qaa r1_9_14 e10)
  refine Qal g _ (ints .u32 (((xq4).set a ((((wget xq4 a))+((wget xq4 b))))).map wv)++rest) 88 r1_10 rfl kj (Qb9 88 _ _ g a 88 _ xq4 ((((wget xq4 a))+((wget xq4 b)))) r1_10 rfl kj kj kj (Nat.lt_of_lt_of_eq (by omega) (Qbi hx4).symm)) fun W11 p11 r1_11=>?_
  obtain ⟨xq5,ex5⟩:∃ z:List Wd,z=rs1 xq4 a b:=⟨_,rfl⟩
  have hx5:xq5.length=16:=by rw [ex5,Qgb,hx4]
  have r1_11_19:W11.heap[g]? = some (.cells (ints .u32 ((xq5).map wv)++rest) 88):=Qbw r1_11 (by rw [ex5]; rfl)
  refine sgN hK18 <| wp_seq_k fun K20 hK20=>QaX 17 [⟨none,[(0,none)]⟩,⟨none,[(4,none)]⟩,⟨none,[(0,none)]⟩,⟨none,[(4,none)]⟩,⟨none,[(31,some 2),(32,some 3)]⟩,⟨none,[(33,some 4)]⟩,⟨none,[(0,none)]⟩,⟨none,[(1,none)]⟩,⟨none,[(35,some 6),(36,some 7)]⟩,⟨none,[(37,some 8)]⟩,⟨none,[(34,some 5),(38,some 9)]⟩,⟨none,[(10,none)]⟩,⟨none,[(11,none)]⟩,⟨none,[(40,some 11),(41,some 12)]⟩,⟨none,[(42,some 13)]⟩,⟨none,[(39,some 10),(43,some 14)]⟩,⟨none,[(29,some 0),(30,some 1)]⟩] kj kj fun F hF=>Qam (.slice (some ⟨g,0,none⟩) 16 cc) kj kj (fun W=>by kernel_rfl) <| Qam (.int .i64 ((d:Nat):Int)) kj kj (fun W=>by kernel_rfl) <| Qam (.slice (some ⟨g,0,none⟩) 16 cc) kj kj (fun W=>by kernel_rfl) <| Qam (.int .i64 ((d:Nat):Int)) kj kj (fun W=>by kernel_rfl) <| Qam (.pointer (some ⟨g,d,none⟩)) kj kj (fun W=>(Qaw 124 _ _ .i64 (d) g 16 cc 88 rfl kj kj kj kj (by omega))) <| QaG (.int .u32 (wv (wget xq5 d))) kj kj (fun W hR=>(Qah 88 _ g d 88 _ (.int .u32 (wv (wget xq5 d))) _ (Qaa (Qaa r1_11_19 (Qak _)) hR) rfl kj ((Qbc (Nat.lt_of_lt_of_eq (by omega) (Qbi hx5).symm)).trans (congrArg (fun z=>some (Value.int .u32 z)) (Qbh xq5 d))) kj)) <| Qam (.slice (some ⟨g,0,none⟩) 16 cc) kj kj (fun W=>by kernel_rfl) ?_
  refine Qam (.int .i64 ((a:Nat):Int)) kj kj (fun W=>by kernel_rfl) <| Qam (.pointer (some ⟨g,a,none⟩)) kj kj (fun W=>(Qaw 124 _ _ .i64 (a) g 16 cc 88 rfl kj kj kj kj (by omega))) <| QaG (.int .u32 (wv (wget xq5 a))) kj kj (fun W hR=>(Qah 88 _ g a 88 _ (.int .u32 (wv (wget xq5 a))) _ (Qaa (Qaa r1_11_19 (Qak _)) hR) rfl kj ((Qbc (Nat.lt_of_lt_of_eq (by omega) (Qbi hx5).symm)).trans (congrArg (fun z=>some (Value.int .u32 z)) (Qbh xq5 a))) kj)) <| Qam (.int .u32 (wv (((wget xq5 d))^^^((wget xq5 a))))) kj kj (fun W=>(Qaf kj (congrArg (Value.int .u32) (w_xor _ _)))) <| Qam (.slice (some ⟨g3,0,none⟩) 4 4) kj kj (fun W=>by kernel_rfl) <| Qam (.int .i64 2) kj kj (fun W=>by kernel_rfl) <| Qam (.pointer (some ⟨g3,2,none⟩)) kj kj (fun W=>(Qaw 146 _ _ .i64 (2) g3 4 4 94 rfl kj kj kj kj (by decide))) ?_
  have r3_11:=(Puts.row p11 (Qaa (Puts.row p9 (Qaa r3_7 e8) (Qa2 hg l3)) e10) (Qa2 hg l3))
  refine QaG (.int .u64 8) kj kj (fun W hR=>(Qah 94 _ g3 2 94 _ (.int .u64 8) _ (Qaa (Qaa r3_11 (Qak _)) hR) rfl kj kj kj)) <| Qc4 (.int .u32 (wv (rl (((wget xq5 d))^^^((wget xq5 a))) 8))) 89 #[.int .u32 (wv (((wget xq5 d))^^^((wget xq5 a)))),.int .u64 8] kj kj (fun W=>by kernel_rfl) (fun W hR=>(QhR (((wget xq5 d))^^^((wget xq5 a))) 8 8 rfl (by decide) (by decide)) W) <| Qam (.pointer (some ⟨g,d,none⟩)) kj kj (fun W=>(Qaw 124 _ _ .i64 (d) g 16 cc 88 rfl kj kj kj kj (by omega))) <| Qbg (hF _ kj fun W12 e12=>?_)
  simp only [ups,up,Kn.val,List.take_succ_cons,List.take_zero,List.drop_succ_cons,List.drop_zero,List.nil_append,List.cons_append]
  clear hF
  have r1_12:=(Qaa r1_11_19 e12)
  refine Qal g _ (ints .u32 (((xq5).set d ((rl (((wget xq5 d))^^^((wget xq5 a))) 8))).map wv)++rest) 88 r1_12 rfl kj (Qb9 88 _ _ g d 88 _ xq5 ((rl (((wget xq5 d))^^^((wget xq5 a))) 8)) r1_12 rfl kj kj kj (Nat.lt_of_lt_of_eq (by omega) (Qbi hx5).symm)) fun W13 p13 r1_13=>?_
  obtain ⟨xq6,ex6⟩:∃ z:List Wd,z=rs2 xq5 d a 8:=⟨_,rfl⟩
  have hx6:xq6.length=16:=by rw [ex6,Qga,hx5]
  have r1_13_21:W13.heap[g]? = some (.cells (ints .u32 ((xq6).map wv)++rest) 88):=Qbw r1_13 (by rw [ex6]; rfl)
  refine sgN hK20 <| wp_seq_k fun K22 hK22=>QaX 12 [⟨none,[(0,none)]⟩,⟨none,[(3,none)]⟩,⟨none,[(0,none)]⟩,⟨none,[(3,none)]⟩,⟨none,[(48,some 2),(49,some 3)]⟩,⟨none,[(50,some 4)]⟩,⟨none,[(0,none)]⟩,⟨none,[(4,none)]⟩,⟨none,[(52,some 6),(53,some 7)]⟩,⟨none,[(54,some 8)]⟩,⟨none,[(51,some 5),(55,some 9)]⟩,⟨none,[(46,some 0),(47,some 1)]⟩] kj kj fun F hF=>Qam (.slice (some ⟨g,0,none⟩) 16 cc) kj kj (fun W=>by kernel_rfl) <| Qam (.int .i64 ((c:Nat):Int)) kj kj (fun W=>by kernel_rfl) <| Qam (.slice (some ⟨g,0,none⟩) 16 cc) kj kj (fun W=>by kernel_rfl) <| Qam (.int .i64 ((c:Nat):Int)) kj kj (fun W=>by kernel_rfl) <| Qam (.pointer (some ⟨g,c,none⟩)) kj kj (fun W=>(Qaw 124 _ _ .i64 (c) g 16 cc 88 rfl kj kj kj kj (by omega))) <| QaG (.int .u32 (wv (wget xq6 c))) kj kj (fun W hR=>(Qah 88 _ g c 88 _ (.int .u32 (wv (wget xq6 c))) _ (Qaa (Qaa r1_13_21 (Qak _)) hR) rfl kj ((Qbc (Nat.lt_of_lt_of_eq (by omega) (Qbi hx6).symm)).trans (congrArg (fun z=>some (Value.int .u32 z)) (Qbh xq6 c))) kj)) <| Qam (.slice (some ⟨g,0,none⟩) 16 cc) kj kj (fun W=>by kernel_rfl) ?_
  refine Qam (.int .i64 ((d:Nat):Int)) kj kj (fun W=>by kernel_rfl) <| Qam (.pointer (some ⟨g,d,none⟩)) kj kj (fun W=>(Qaw 124 _ _ .i64 (d) g 16 cc 88 rfl kj kj kj kj (by omega))) <| QaG (.int .u32 (wv (wget xq6 d))) kj kj (fun W hR=>(Qah 88 _ g d 88 _ (.int .u32 (wv (wget xq6 d))) _ (Qaa (Qaa r1_13_21 (Qak _)) hR) rfl kj ((Qbc (Nat.lt_of_lt_of_eq (by omega) (Qbi hx6).symm)).trans (congrArg (fun z=>some (Value.int .u32 z)) (Qbh xq6 d))) kj)) <| Qam (.int .u32 (wv (((wget xq6 c))+((wget xq6 d))))) kj kj (fun W=>(Qaf kj (congrArg (Value.int .u32) (QcF _ _)))) <| Qam (.pointer (some ⟨g,c,none⟩)) kj kj (fun W=>(Qaw 124 _ _ .i64 (c) g 16 cc 88 rfl kj kj kj kj (by omega))) <| Qbg (hF _ kj fun W14 e14=>?_)
  simp only [ups,up,Kn.val,List.take_succ_cons,List.take_zero,List.drop_succ_cons,List.drop_zero,List.nil_append,List.cons_append]
  clear hF
  have r1_14:=(Qaa r1_13_21 e14)
  refine Qal g _ (ints .u32 (((xq6).set c ((((wget xq6 c))+((wget xq6 d))))).map wv)++rest) 88 r1_14 rfl kj (Qb9 88 _ _ g c 88 _ xq6 ((((wget xq6 c))+((wget xq6 d)))) r1_14 rfl kj kj kj (Nat.lt_of_lt_of_eq (by omega) (Qbi hx6).symm)) fun W15 p15 r1_15=>?_
  obtain ⟨xq7,ex7⟩:∃ z:List Wd,z=rs1 xq6 c d:=⟨_,rfl⟩
  have hx7:xq7.length=16:=by rw [ex7,Qgb,hx6]
  have r1_15_23:W15.heap[g]? = some (.cells (ints .u32 ((xq7).map wv)++rest) 88):=Qbw r1_15 (by rw [ex7]; rfl)
  refine sgN hK22 <| QaX 18 [⟨none,[(0,none)]⟩,⟨none,[(2,none)]⟩,⟨none,[(0,none)]⟩,⟨none,[(2,none)]⟩,⟨none,[(60,some 2),(61,some 3)]⟩,⟨none,[(62,some 4)]⟩,⟨none,[(0,none)]⟩,⟨none,[(3,none)]⟩,⟨none,[(64,some 6),(65,some 7)]⟩,⟨none,[(66,some 8)]⟩,⟨none,[(63,some 5),(67,some 9)]⟩,⟨none,[(10,none)]⟩,⟨none,[(11,none)]⟩,⟨none,[(70,some 12)]⟩,⟨none,[(69,some 11),(71,some 13)]⟩,⟨none,[(72,some 14)]⟩,⟨none,[(68,some 10),(73,some 15)]⟩,⟨none,[(58,some 0),(59,some 1)]⟩] kj kj fun F hF=>Qam (.slice (some ⟨g,0,none⟩) 16 cc) kj kj (fun W=>by kernel_rfl) <| Qam (.int .i64 ((b:Nat):Int)) kj kj (fun W=>by kernel_rfl) <| Qam (.slice (some ⟨g,0,none⟩) 16 cc) kj kj (fun W=>by kernel_rfl) <| Qam (.int .i64 ((b:Nat):Int)) kj kj (fun W=>by kernel_rfl) <| Qam (.pointer (some ⟨g,b,none⟩)) kj kj (fun W=>(Qaw 124 _ _ .i64 (b) g 16 cc 88 rfl kj kj kj kj (by omega))) <| QaG (.int .u32 (wv (wget xq7 b))) kj kj (fun W hR=>(Qah 88 _ g b 88 _ (.int .u32 (wv (wget xq7 b))) _ (Qaa (Qaa r1_15_23 (Qak _)) hR) rfl kj ((Qbc (Nat.lt_of_lt_of_eq (by omega) (Qbi hx7).symm)).trans (congrArg (fun z=>some (Value.int .u32 z)) (Qbh xq7 b))) kj)) <| Qam (.slice (some ⟨g,0,none⟩) 16 cc) kj kj (fun W=>by kernel_rfl) <| Qam (.int .i64 ((c:Nat):Int)) kj kj (fun W=>by kernel_rfl) ?_
  refine Qam (.pointer (some ⟨g,c,none⟩)) kj kj (fun W=>(Qaw 124 _ _ .i64 (c) g 16 cc 88 rfl kj kj kj kj (by omega))) <| QaG (.int .u32 (wv (wget xq7 c))) kj kj (fun W hR=>(Qah 88 _ g c 88 _ (.int .u32 (wv (wget xq7 c))) _ (Qaa (Qaa r1_15_23 (Qak _)) hR) rfl kj ((Qbc (Nat.lt_of_lt_of_eq (by omega) (Qbi hx7).symm)).trans (congrArg (fun z=>some (Value.int .u32 z)) (Qbh xq7 c))) kj)) <| Qam (.int .u32 (wv (((wget xq7 b))^^^((wget xq7 c))))) kj kj (fun W=>(Qaf kj (congrArg (Value.int .u32) (w_xor _ _)))) <| Qam (.slice (some ⟨g3,0,none⟩) 4 4) kj kj (fun W=>by kernel_rfl) <| Qam (.int .i64 2) kj kj (fun W=>by kernel_rfl) <| Qam (.int .i64 3) kj kj (fun W=>by kernel_rfl) <| Qam (.pointer (some ⟨g3,3,none⟩)) kj kj (fun W=>(Qaw 146 _ _ .i64 (3) g3 4 4 94 rfl kj kj kj kj (by decide))) <| QaG (.int .u64 7) kj kj (fun W hR=>(Qah 94 _ g3 3 94 _ (.int .u64 7) _ (Qaa (Qaa (Puts.row p15 (Qaa (Puts.row p13 (Qaa r3_11 e12) (Qa2 hg l3)) e14) (Qa2 hg l3)) (Qak _)) hR) rfl kj kj kj)) <| Qc4 (.int .u32 (wv (rl (((wget xq7 b))^^^((wget xq7 c))) 7))) 89 #[.int .u32 (wv (((wget xq7 b))^^^((wget xq7 c)))),.int .u64 7] kj kj (fun W=>by kernel_rfl) (fun W hR=>(QhR (((wget xq7 b))^^^((wget xq7 c))) 7 7 rfl (by decide) (by decide)) W) <| Qam (.pointer (some ⟨g,b,none⟩)) kj kj (fun W=>(Qaw 124 _ _ .i64 (b) g 16 cc 88 rfl kj kj kj kj (by omega))) ?_
  refine Qbg (hF _ kj fun W16 e16=>?_)
  simp only [ups,up,Kn.val,List.take_succ_cons,List.take_zero,List.drop_succ_cons,List.drop_zero,List.nil_append,List.cons_append]
  clear hF
  have r1_16:=(Qaa r1_15_23 e16)
  refine Qal g _ (ints .u32 (((xq7).set b ((rl (((wget xq7 b))^^^((wget xq7 c))) 7))).map wv)++rest) 88 r1_16 rfl kj (Qb9 88 _ _ g b 88 _ xq7 ((rl (((wget xq7 b))^^^((wget xq7 c))) 7)) r1_16 rfl kj kj kj (Nat.lt_of_lt_of_eq (by omega) (Qbi hx7).symm)) fun W17 p17 r1_17=>?_
  obtain ⟨xq8,ex8⟩:∃ z:List Wd,z=rs2 xq7 b c 7:=⟨_,rfl⟩
  have hx8:xq8.length=16:=by rw [ex8,Qga,hx7]
  have r1_17_24:W17.heap[g]? = some (.cells (ints .u32 ((xq8).map wv)++rest) 88):=Qbw r1_17 (by rw [ex8]; rfl)
  refine Qao <| hK17 _ _ <| sgA kj ?_
  show Code.rounds _ _ _ 1 _ _
  show Code.wp _ _ (Exit.then (Code.rounds _ _ _ 0) _) _ _
  refine wp_seq_k fun K25 hK25=>sgB kj <| cond_false kj <| wp_exit ?_
  repeat (first | with_reducible refine goX1 ?_ | with_reducible refine goX2 ?_ | with_reducible refine goX3 ?_)
  exact (show bodyPost _ _ _ .normal _ _ from end0 rfl ⟨rfl,(ExtB.puts (ExtB.ext (ExtB.puts (ExtB.ext (ExtB.puts (ExtB.ext (ExtB.puts (ExtB.ext (ExtB.puts (ExtB.ext (ExtB.puts (ExtB.ext (ExtB.puts (ExtB.ext (ExtB.puts (ExtB.ext (ExtB.ext (ExtB.refl g w) e1) e2) p3) e4) p5) e6) p7) e8) p9) e10) p11) e12) p13) e14) p15) e16) p17),by rw [show rqrt x a b c d=xq8 by rw [ex8,ex7,ex6,ex5,ex4,ex3,ex2,ex1]; rfl]; exact r1_17_24⟩)
theorem Qhk (b : List Int) (v:Value) (B:Nat) (w:World) (hb:RdK .u8 B b v w) (hl:b.length≤1000000):Calls Tryd.prog 76 #[v] w (Qb8 w (OwnN .u32 88 w.heap.size ((rwords b).map wv))):=by
 obtain ⟨a_b,c_b,rfl,-⟩:=id hb
 refine enter 45 [(0,.slice a_b b.length c_b)] Tryd.func76 rfl rfl kj rfl <| sgB kj <| sgB kj <| wp_seq_k fun K3 hK3=>sgB kj <| wp_block <| Qa5 (fun (s1:Nat×Value)=>[(0,.slice a_b b.length c_b),(3,s1.2),(4,.int .i64 ((4*s1.1:Nat):Int))]) (fun (s1:Nat×Value) W=>(4*s1.1≤b.length)∧(OwnN .u32 88 w.heap.size ((rws b s1.1).map wv) s1.2 W)∧(Ext w W)) (fun (s1:Nat×Value)=>b.length-4*s1.1) (0,(.slice none 0 0)) ⟨kj,kj,kj,trivial⟩ ⟨(Nat.zero_le _),(Qbz _ _ _ _),(Rely.Ext.refl w)⟩ fun s1 X1 V1 hI1=>?_
 obtain ⟨j,u⟩:=s1
 obtain ⟨hj,hu,xx1⟩:=hI1
 replace hj:4*j≤b.length:=hj
 replace hu:OwnN .u32 88 w.heap.size ((rws b j).map wv) u V1:=hu
 replace xx1:Ext w V1:=xx1
 refine wp_seq_k fun K5 hK5=>sgC fun K6 hK6=>sg 1 kj <| Qab (.int .i64 (((4*j)+4:Nat):Int)) 6 rfl kj (Qaf (u:=.int .i64 (IntKind.i64.wrap (((4*j:Nat):Int)+4))) kj (congrArg (Value.int .i64) (i64n _ _ (by omega) (by omega)))) <| sg 3 kj <| sgN hK6 <| Qay (t:=decide ((((4*j)+4:Nat):Int)≤((b.length:Nat):Int))) kj (fun c7=>?_) (fun c7=>?_)
 ·skip
  have hlt:4*j+4≤b.length:=by have:=of_decide_eq_true c7; omega
  obtain ⟨gb,ob,hab,-,hlb,hcb⟩:=QbF (RdK.ext hb xx1) (by omega)
  refine wp_skip <| hK5 _ _ <| wp_seq_k fun K9 hK9=>wp_block <| QaD 31 [⟨none,[(3,none)]⟩,⟨none,[(0,none)]⟩,⟨none,[(4,none)]⟩,⟨none,[(13,some 1),(14,some 2)]⟩,⟨none,[(15,some 3)]⟩,⟨none,[(16,some 4)]⟩,⟨none,[(0,none)]⟩,⟨none,[(4,none)]⟩,⟨none,[(19,some 7)]⟩,⟨none,[(18,some 6),(20,some 8)]⟩,⟨none,[(21,some 9)]⟩,⟨none,[(22,some 10)]⟩,⟨none,[(23,some 11)]⟩,⟨none,[(17,some 5),(24,some 12)]⟩,⟨none,[(0,none)]⟩,⟨none,[(4,none)]⟩,⟨none,[(27,some 15)]⟩,⟨none,[(26,some 14),(28,some 16)]⟩,⟨none,[(29,some 17)]⟩,⟨none,[(30,some 18)]⟩,⟨none,[(31,some 19)]⟩,⟨none,[(25,some 13),(32,some 20)]⟩,⟨none,[(0,none)]⟩,⟨none,[(4,none)]⟩,⟨none,[(35,some 23)]⟩,⟨none,[(34,some 22),(36,some 24)]⟩,⟨none,[(37,some 25)]⟩,⟨none,[(38,some 26)]⟩,⟨none,[(39,some 27)]⟩,⟨none,[(33,some 21),(40,some 28)]⟩,⟨none,[(41,some 29)]⟩] kj kj fun F hF=>Qar (Qag _) (u) kj kj (fun W=>by kernel_rfl) <| Qar (Qag _) (.slice a_b b.length c_b) kj kj (fun W=>by kernel_rfl) <| Qar (Qag _) (.int .i64 ((4*j:Nat):Int)) kj kj (fun W=>by kernel_rfl) <| Qar (Qag _) (.pointer (some ⟨gb,ob+(4*j),none⟩)) kj kj (fun W=>(QaN 33 _ _ .i64 (4*j) gb ob b.length c_b 5 a_b _ hab rfl rfl kj kj kj kj (Nat.lt_of_lt_of_eq (show 4*j<b.length by omega) (rfl:b.length=b.length).symm))) <| QaR (Qag _) (.int .u8 (nth (b) ((4*j)))) kj kj (fun W hR=>(Qaz 5 _ _ (.int .u8 (nth (b) ((4*j)))) ((Below.cell (Rely.Ext.trans (Qak _) hR) hlb).trans (hcb (4*j) (Nat.lt_of_lt_of_eq (show 4*j<b.length by omega) (rfl:b.length=b.length).symm))) rfl kj kj)) ?_
  refine Qar (Qag _) (.int .u32 (wv (BitVec.ofInt 32 (nth b (4*j))))) kj kj (fun W=>(Qaf (u:=.int .u32 (IntKind.u32.wrap (nth (b) ((4*j))))) kj (congrArg (Value.int .u32) (Qhe b (4*j))))) <| Qar (Qag _) (.slice a_b b.length c_b) kj kj (fun W=>by kernel_rfl) <| Qar (Qag _) (.int .i64 ((4*j:Nat):Int)) kj kj (fun W=>by kernel_rfl) <| Qar (Qag _) (.int .i64 (((4*j)+1:Nat):Int)) kj kj (fun W=>(Qaf (u:=.int .i64 (IntKind.i64.wrap (((4*j:Nat):Int)+1))) kj (congrArg (Value.int .i64) (i64n _ _ (by omega) (by omega))))) <| Qar (Qag _) (.pointer (some ⟨gb,ob+((4*j)+1),none⟩)) kj kj (fun W=>(QaN 33 _ _ .i64 ((4*j)+1) gb ob b.length c_b 5 a_b _ hab rfl rfl kj kj kj kj (Nat.lt_of_lt_of_eq (show (4*j)+1<b.length by omega) (rfl:b.length=b.length).symm))) <| QaR (Qag _) (.int .u8 (nth (b) (((4*j)+1)))) kj kj (fun W hR=>(Qaz 5 _ _ (.int .u8 (nth (b) (((4*j)+1)))) ((Below.cell (Rely.Ext.trans (Qak _) hR) hlb).trans (hcb ((4*j)+1) (Nat.lt_of_lt_of_eq (show (4*j)+1<b.length by omega) (rfl:b.length=b.length).symm))) rfl kj kj)) <| Qar (Qag _) (.int .u32 (wv (BitVec.ofInt 32 (nth b (4*j+1))))) kj kj (fun W=>(Qaf (u:=.int .u32 (IntKind.u32.wrap (nth (b) (((4*j)+1))))) kj (congrArg (Value.int .u32) (Qhe b (4*j+1))))) <| Qar (Qag _) (.int .u32 (wv (BitVec.ofInt 32 (nth b (4*j+1))<<<8))) kj kj (fun W=>(Qaf (u:=.int .u32 (IntKind.u32.wrap (256*(wv (BitVec.ofInt 32 (nth b (4*j+1))))))) kj (congrArg (Value.int .u32) (mulW _ 256 8 rfl (by decide))))) <| Qar (Qag _) (.int .u32 (wv (((BitVec.ofInt 32 (nth b (4*j))))+((BitVec.ofInt 32 (nth b (4*j+1))<<<8))))) kj kj (fun W=>(Qaf kj (congrArg (Value.int .u32) (QcF _ _)))) <| Qar (Qag _) (.slice a_b b.length c_b) kj kj (fun W=>by kernel_rfl) ?_
  refine Qar (Qag _) (.int .i64 ((4*j:Nat):Int)) kj kj (fun W=>by kernel_rfl) <| Qar (Qag _) (.int .i64 (((4*j)+2:Nat):Int)) kj kj (fun W=>(Qaf (u:=.int .i64 (IntKind.i64.wrap (((4*j:Nat):Int)+2))) kj (congrArg (Value.int .i64) (i64n _ _ (by omega) (by omega))))) <| Qar (Qag _) (.pointer (some ⟨gb,ob+((4*j)+2),none⟩)) kj kj (fun W=>(QaN 33 _ _ .i64 ((4*j)+2) gb ob b.length c_b 5 a_b _ hab rfl rfl kj kj kj kj (Nat.lt_of_lt_of_eq (show (4*j)+2<b.length by omega) (rfl:b.length=b.length).symm))) <| QaR (Qag _) (.int .u8 (nth (b) (((4*j)+2)))) kj kj (fun W hR=>(Qaz 5 _ _ (.int .u8 (nth (b) (((4*j)+2)))) ((Below.cell (Rely.Ext.trans (Qak _) hR) hlb).trans (hcb ((4*j)+2) (Nat.lt_of_lt_of_eq (show (4*j)+2<b.length by omega) (rfl:b.length=b.length).symm))) rfl kj kj)) <| Qar (Qag _) (.int .u32 (wv (BitVec.ofInt 32 (nth b (4*j+2))))) kj kj (fun W=>(Qaf (u:=.int .u32 (IntKind.u32.wrap (nth (b) (((4*j)+2))))) kj (congrArg (Value.int .u32) (Qhe b (4*j+2))))) <| Qar (Qag _) (.int .u32 (wv (BitVec.ofInt 32 (nth b (4*j+2))<<<16))) kj kj (fun W=>(Qaf (u:=.int .u32 (IntKind.u32.wrap (65536*(wv (BitVec.ofInt 32 (nth b (4*j+2))))))) kj (congrArg (Value.int .u32) (mulW _ 65536 16 rfl (by decide))))) <| Qar (Qag _) (.int .u32 (wv (((((BitVec.ofInt 32 (nth b (4*j))))+((BitVec.ofInt 32 (nth b (4*j+1))<<<8))))+((BitVec.ofInt 32 (nth b (4*j+2))<<<16))))) kj kj (fun W=>(Qaf kj (congrArg (Value.int .u32) (QcF _ _)))) <| Qar (Qag _) (.slice a_b b.length c_b) kj kj (fun W=>by kernel_rfl) <| Qar (Qag _) (.int .i64 ((4*j:Nat):Int)) kj kj (fun W=>by kernel_rfl) <| Qar (Qag _) (.int .i64 (((4*j)+3:Nat):Int)) kj kj (fun W=>(Qaf (u:=.int .i64 (IntKind.i64.wrap (((4*j:Nat):Int)+3))) kj (congrArg (Value.int .i64) (i64n _ _ (by omega) (by omega))))) ?_
  refine Qar (Qag _) (.pointer (some ⟨gb,ob+((4*j)+3),none⟩)) kj kj (fun W=>(QaN 33 _ _ .i64 ((4*j)+3) gb ob b.length c_b 5 a_b _ hab rfl rfl kj kj kj kj (Nat.lt_of_lt_of_eq (show (4*j)+3<b.length by omega) (rfl:b.length=b.length).symm))) <| QaR (Qag _) (.int .u8 (nth (b) (((4*j)+3)))) kj kj (fun W hR=>(Qaz 5 _ _ (.int .u8 (nth (b) (((4*j)+3)))) ((Below.cell (Rely.Ext.trans (Qak _) hR) hlb).trans (hcb ((4*j)+3) (Nat.lt_of_lt_of_eq (show (4*j)+3<b.length by omega) (rfl:b.length=b.length).symm))) rfl kj kj)) <| Qar (Qag _) (.int .u32 (wv (BitVec.ofInt 32 (nth b (4*j+3))))) kj kj (fun W=>(Qaf (u:=.int .u32 (IntKind.u32.wrap (nth (b) (((4*j)+3))))) kj (congrArg (Value.int .u32) (Qhe b (4*j+3))))) <| Qar (Qag _) (.int .u32 (wv (BitVec.ofInt 32 (nth b (4*j+3))<<<24))) kj kj (fun W=>(Qaf (u:=.int .u32 (IntKind.u32.wrap (16777216*(wv (BitVec.ofInt 32 (nth b (4*j+3))))))) kj (congrArg (Value.int .u32) (mulW _ 16777216 24 rfl (by decide))))) <| Qar (Qag _) (.int .u32 (wv (rw4 b j))) kj kj (fun W=>(Qaf kj (congrArg (Value.int .u32) (QcF _ _)))) <| Qiq (Qag _) (ints .u32 ([(wv (rw4 b j))])) 88 1 (NewS.stable _ _ _ _) kj kj (fun W=>by kernel_rfl) <| QbN (hF _ fun W2 e2=>?_)
  simp only [List.nil_append,List.cons_append,List.take_succ_cons,List.take_zero,List.drop_succ_cons,List.drop_zero,finE,up]
  intro vv10 hv10
  clear hF
  obtain ⟨g10,rfl,l10,r10_2⟩:=hv10
  have b10:=qT xx1.size l10
  refine QaH (k:=.u32) (T:=88) (xs:=(rws b j).map wv) (ys:=[(wv (rw4 b j))]) (V:=w) 4 (.tmp 12) (.tmp 42) 124 rfl kj kj (by decide) 43 rfl kj kj kj (hu.ext e2) (QaI (xs:=[(wv (rw4 b j))]) (n:=1) rfl r10_2 (Qau r10_2) (show 1≤maxLen from by decide)) (by simp only [List.length_map,Qjj,List.length_cons,List.length_nil]; omega) (Rely.Ext.trans xx1 e2) fun z1 W3 f12 y3 l3=>?_
  refine sg 1 kj <| Qao <| hK9 _ _ <| Qai <| sg 1 kj <| Qab (.int .i64 (((4*j)+4:Nat):Int)) 11 rfl kj (Qaf (u:=.int .i64 (IntKind.i64.wrap (((4*j:Nat):Int)+4))) kj (congrArg (Value.int .i64) (i64n _ _ (by omega) (by omega)))) <| sg 1 kj <| Qao ?_
  repeat (first | with_reducible refine goX1 ?_ | with_reducible refine goX2 ?_ | with_reducible refine goX3 ?_)
  exact Qax ((j+1),z1) ⟨kj,kj,kj,trivial⟩ ⟨(by omega),(by rw [Qkt]; exact f12),(Ext.low (Ext.tr xx1 e2) l3 (Rely.Ext.refl w).size)⟩ (by show b.length-4*(j+1)<b.length-4*j; omega)
 ·skip
  have hge:b.length/4=j:=by have:=of_decide_eq_false c7; omega
  refine wp_exit <| hK3 _ _ <| sgB kj <| wp_ret ?_
  repeat (first | with_reducible refine goR1 ?_ | with_reducible refine goR2 ?_)
  exact (show bodyPost _ _ _ .ret _ _ from ret1 (u) rfl (Qa0 kj) ⟨u,rfl,xx1,by unfold rwords; rw [hge]; exact hu⟩)
end Go.Proofs.YtophlgnnjjkkiaaDoor.Cha
end
section
namespace Go.Proofs.YtophlgnnjjkkiaaDoor.Cha
open Go Go.RowKit
open Rely Auto Own Sha
open Sha
theorem Qf7 (b : List Int) (n:Nat) (h:b.length=4*n):(rwords b).length=n:=by unfold rwords; rw [Qjj]; omega
theorem Qi9 : rwords [101,120,112,97,110,100,32,51,50,45,98,121,116,101,32,107]=[1634760805,857760878,2036477234,1797285236]:=by decide +kernel
theorem Qku (b : List Int) (h:b.length=32) (hb:Qaj b):rwords b=[le4 (sub4 b 0),le4 (sub4 b 1),le4 (sub4 b 2),le4 (sub4 b 3),le4 (sub4 b 4),le4 (sub4 b 5),le4 (sub4 b 6),le4 (sub4 b 7)]:=by
  have e:rwords b=[rw4 b 0,rw4 b 1,rw4 b 2,rw4 b 3,rw4 b 4,rw4 b 5,rw4 b 6,rw4 b 7]:=by unfold rwords; rw [h]; rfl
  rw [e]; simp only [Qle b _ (Qa8 hb)]
theorem Qkv (b : List Int) (h:b.length=12) (hb:Qaj b):rwords b=[le4 (sub4 b 0),le4 (sub4 b 1),le4 (sub4 b 2)]:=by
  have e:rwords b=[rw4 b 0,rw4 b 1,rw4 b 2]:=by unfold rwords; rw [h]; rfl
  rw [e]; simp only [Qle b _ (Qa8 hb)]
theorem rstart (key nonce:List Int) (number:Int) (hk:key.length=32) (hkb:Qaj key) (hn:nonce.length=12) (hnb:Qaj nonce) :
    rwords [101,120,112,97,110,100,32,51,50,45,98,121,116,101,32,107]++rwords key++[BitVec.ofInt 32 number]++rwords nonce=(QaO key nonce).set 12 (BitVec.ofInt 32 number):=by
  rw [Qi9,Qku key hk hkb,Qkv nonce hn hnb]; rfl
theorem QmT (x s:List Wd) (i:Nat) (hi:i<64):IntKind.u8.wrap (wv ((wget x (i/4)+wget s (i/4))>>>(8*(i%4))))=nth (QbI x s) i:=by
  have h:=QmU x s (i/4) (i%4) (by omega) (by omega)
  rw [show 4*(i/4)+i%4=i by omega] at h
  exact h
set_option maxRecDepth 100000 in
theorem Qge (key nonce:List Int) (v:Value) (B:Nat) (number:Int) (w:World) (hkl:key.length=32) (hn:RdK .u8 B nonce v w) (h:nonce.length=12) (h1:0≤number) (h2:number≤4294967295) (hkb:Qaj key) (hnb:Qaj nonce):Calls Tryd.prog 62 #[.agg (ints .u8 key),v,.int .i64 number] w (Ret w (.tuple #[.agg (ints .u8 (Qbb (QaO key nonce) number)),.int .i64 0])):=by
 obtain ⟨a_n,c_n,rfl,-⟩:=id hn
 have hlE:(rwords [101,120,112,97,110,100,32,51,50,45,98,121,116,101,32,107]).length=4:=rfl
 have hlK:(rwords key).length=8:=Qf7 key 8 hkl
 have hlN:(rwords nonce).length=3:=Qf7 nonce 3 h
 refine enter 105 [(0,.agg (ints .u8 (key))),(1,.slice a_n nonce.length c_n),(2,.int .i64 number)] Tryd.func62 rfl rfl kj rfl <| sgC fun K1 hK1=>Qaq (ints .u8 (key)) 23 3 rfl kj kj fun g2 W1 l2 e1 r2_1=>?_
 have x1:=Ext.tr (Rely.Ext.refl w) e1
 have b2:=qT (Rely.Ext.refl w).size l2
 refine Qaq (ints .u8 (List.replicate 64 0)) 90 6 rfl kj kj fun g3 W2 l3 e2 r3_2=>?_
 have x2:=Ext.tr x1 e2
 refine sg 1 kj <| sgN hK1 <| sgC fun K4 hK4=>Qaq (ints .u8 (List.replicate 64 0)) 90 8 rfl kj kj fun g5 W3 l5 e3 r5_3=>?_
 have x3:=Ext.tr x2 e3
 refine sgN hK4 <| wp_seq_k fun K6 hK6=>sgC fun K7 hK7=>sg 2 kj <| Qab (.bool false) 17 rfl kj (Qaf (u:=.bool ((((nonce.length:Nat):Int) != 12))) kj (congrArg Value.bool (by simp; omega))) ?_
 refine sgN hK7 <| cond_false kj <| wp_skip <| hK6 _ _ <| wp_seq_k fun K8 hK8=>sgC fun K9 hK9=>sg 1 kj <| Qab (.bool false) 20 rfl kj (Qaf (u:=.bool (decide (number<0))) kj (congrArg Value.bool (decide_eq_false (by omega)))) <| sg 2 kj <| Qab (.bool false) 23 rfl kj (Qaf (u:=.bool (decide (number>4294967295))) kj (congrArg Value.bool (decide_eq_false (by omega)))) ?_
 refine sg 1 kj <| sgN hK9 <| cond_false kj <| wp_skip <| hK8 _ _ <| sgC fun K10 hK10=>Qa7 (ints .u8 ([101,120,112,97,110,100,32,51,50,45,98,121,116,101,32,107])) 5 16 26 rfl kj kj fun g11 W4 l11 e4 r11_4=>Qg9 (xs:=[101,120,112,97,110,100,32,51,50,45,98,121,116,101,32,107]) 33 5 (.tmp 26) 27 rfl rfl kj kj kj kj rfl (show 16≤maxLen by decide) r11_4 fun W5 p5 r11_5 rd12=>?_
 have x5:=Puts.ext p5 (Ext.tr x3 e4) (qT x3.size l11)
 refine Qat (fun v W'=>(OwnN .u32 88 W5.heap.size ((rwords ([101,120,112,97,110,100,32,51,50,45,98,121,116,101,32,107])).map wv)) v W'∧Ext W5 W') 76 #[.slice (some ⟨g11,0,none⟩) 16 16] 28 rfl kj kj ((Qhk ([101,120,112,97,110,100,32,51,50,45,98,121,116,101,32,107]) _ _ _ rd12 (by decide)).mono (by rintro e w' ⟨v,rfl,e1,hv⟩; exact ⟨v,rfl,hv,e1⟩)) fun vv13 W6 hh13=>?_
 obtain ⟨hv13,e6⟩:=hh13
 refine sg 1 kj <| sgN hK10 <| sgC fun K14 hK14=>sg 2 kj ?_
 have r2_3:=(Qaa (Qaa r2_1 e2) e3)
 have r2_6:=(Qaa (Puts.row p5 (Qaa r2_3 e4) (Qae r2_3 l11)) e6)
 refine Qat (fun v W'=>(OwnN .u32 88 W6.heap.size ((rwords key).map wv)) v W'∧Ext W6 W') 76 #[.slice (some ⟨g2,0,none⟩) 32 32] 31 rfl kj kj ((Qhk key _ _ _ (QaI (xs:=key) (n:=32) hkl r2_6 (Qau r2_6) (show 32≤maxLen from by decide)) (by omega)).mono (by rintro e w' ⟨v,rfl,e1,hv⟩; exact ⟨v,rfl,hv,e1⟩)) fun vv15 W7 hh15=>?_
 obtain ⟨hv15,e7⟩:=hh15
 have y5_6:=(Rely.Ext.trans (Rely.Ext.refl W5) e6)
 refine QaH (k:=.u32) (T:=88) (xs:=(rwords ([101,120,112,97,110,100,32,51,50,45,98,121,116,101,32,107])).map wv) (ys:=(rwords key).map wv) (V:=W5) 4 (.tmp 29) (.tmp 31) 124 rfl kj kj (by decide) 32 rfl kj kj kj (hv13.ext e7) (OwnN.rd (OwnN.base y5_6.size hv15)) (by simp only [List.length_append,List.length_map,hlE,hlK,hlN,List.length_cons,List.length_nil]; omega) (Rely.Ext.trans y5_6 e7) fun z1 W8 f17 y8 l8=>?_
 have x8:=Ext.low (Ext.tr (Ext.tr x5 e6) e7) l8 x5.size
 refine sg 1 kj <| sgN hK14 <| sgC fun K19 hK19=>sg 2 kj <| Qab (.int .u32 (wv (BitVec.ofInt 32 number))) 35 rfl kj (Qaf (u:=.int .u32 (IntKind.u32.wrap (number))) kj (congrArg (Value.int .u32) (by rw [Sha.wrap32,Qel]))) <| Qa7 (ints .u32 ([(wv (BitVec.ofInt 32 number))])) 88 1 36 rfl kj kj fun g20 W9 l20 e9 r20_9=>?_
 have b20:=qT x8.size l20
 refine QaH (k:=.u32) (T:=88) (xs:=(rwords ([101,120,112,97,110,100,32,51,50,45,98,121,116,101,32,107])).map wv++(rwords key).map wv) (ys:=[(wv (BitVec.ofInt 32 number))]) (V:=W5) 4 (.tmp 33) (.tmp 36) 124 rfl kj kj (by decide) 37 rfl kj kj kj (f17.ext e9) (QaI (xs:=[(wv (BitVec.ofInt 32 number))]) (n:=1) rfl r20_9 (Qau r20_9) (show 1≤maxLen from by decide)) (by simp only [List.length_append,List.length_map,hlE,hlK,hlN,List.length_cons,List.length_nil]; omega) (Rely.Ext.trans y8 e9) fun z2 W10 f22 y10 l10=>?_
 have x10:=Ext.low (Ext.tr x8 e9) l10 x5.size
 refine sg 1 kj <| sgN hK19 <| sgC fun K24 hK24=>sg 2 kj <| Qat (fun v W'=>(OwnN .u32 88 W10.heap.size ((rwords nonce).map wv)) v W'∧Ext W10 W') 76 #[.slice a_n nonce.length c_n] 40 rfl kj kj ((Qhk nonce _ _ _ (RdK.ext hn x10) (by omega)).mono (by rintro e w' ⟨v,rfl,e1,hv⟩; exact ⟨v,rfl,hv,e1⟩)) fun vv25 W11 hh25=>?_
 obtain ⟨hv25,e11⟩:=hh25
 refine QaH (k:=.u32) (T:=88) (xs:=(rwords ([101,120,112,97,110,100,32,51,50,45,98,121,116,101,32,107])).map wv++(rwords key).map wv++[(wv (BitVec.ofInt 32 number))]) (ys:=(rwords nonce).map wv) (V:=W5) 4 (.tmp 38) (.tmp 40) 124 rfl kj kj (by decide) 41 rfl kj kj kj (f22.ext e11) (OwnN.rd (OwnN.base y10.size hv25)) (by simp only [List.length_append,List.length_map,hlE,hlK,hlN,List.length_cons,List.length_nil]; omega) (Rely.Ext.trans y10 e11) fun z3 W12 f27 y12 l12=>?_
 have x12:=Ext.low (Ext.tr x10 e11) l12 x5.size
 refine sg 1 kj <| sgN hK24 <| sgC fun K29 hK29=>Qa7 (ints .u32 ([])) 88 0 42 rfl kj kj fun g30 W13 l30 e13 r30_13=>?_
 have b30:=qT x12.size l30
 refine sg 1 kj <| QaH (k:=.u32) (T:=88) (xs:=[]) (ys:=(rwords ([101,120,112,97,110,100,32,51,50,45,98,121,116,101,32,107])).map wv++(rwords key).map wv++[(wv (BitVec.ofInt 32 number))]++(rwords nonce).map wv) (V:=W12) 4 (.tmp 42) (.tmp 43) 124 rfl kj kj (by decide) 44 rfl kj kj kj (Qcr (xs:=[]) rfl l30 r30_13 (by decide)) (OwnN.rd (f27.ext e13)) (by simp only [List.length_append,List.length_map,hlE,hlK,hlN,List.length_cons,List.length_nil]; omega) (Rely.Ext.trans (Rely.Ext.refl W12) e13) fun z4 W14 f32 y14 l14=>?_
 refine sg 1 kj ?_
 obtain ⟨s,es⟩:∃ z:List Wd,z=(QaO key nonce).set 12 (BitVec.ofInt 32 number):=⟨_,rfl⟩
 have hs:s.length=16:=by rw [es,List.length_set]; rfl
 have hsE:(rwords ([101,120,112,97,110,100,32,51,50,45,98,121,116,101,32,107])).map wv++(rwords key).map wv++[(wv (BitVec.ofInt 32 number))]++(rwords nonce).map wv=s.map wv:=by rw [es,←rstart key nonce number hkl hkb h hnb]; simp only [List.map_append]; rfl
 have hF9:OwnN .u32 88 W5.heap.size (s.map wv) z3 W12:=hsE▸f27
 have hFx:OwnN .u32 88 W12.heap.size (s.map wv) z4 W14:=by have h1:=f32; rw [List.nil_append,hsE] at h1; exact h1
 obtain ⟨gx,cx,rx,rfl,lx,rowx,hcx⟩:=Qep hFx (Qbi hs) (by decide)
 have nb9:(z3).ownBlock≠some gx:=fun e=>by have h1:=OwnN.lt hF9 e; omega
 have r5_5:=(Puts.row p5 (Qaa r5_3 e4) (Qae r5_3 l11))
 have nb9b:(z3).ownBlock≠some g5:=fun e=>by have h1:=OwnN.ge hF9 e; have h2:=Qau r5_5; omega
 have r5_12:=(Qbf l12 (Qaa (Qbf l10 (Qaa (Qbf l8 (Qaa (Qaa r5_5 e6) e7) (Qau r5_5)) e9) (Qau r5_5)) e11) (Qau r5_5))
 have nx8:gx≠g5:=(Qa2 r5_12 lx)
 obtain ⟨a9,c9,rfl,-⟩:=id (OwnN.rd hF9)
 refine sgN hK29 <| wp_seq_k fun K35 hK35=>sgB kj <| wp_block <| Qa5 (fun (s1:Nat)=>[(6,.pointer (some ⟨g3,0,none⟩)),(8,.pointer (some ⟨g5,0,none⟩)),(9,.slice a9 ((s.map wv).length) c9),(10,.slice (some ⟨gx,0,none⟩) 16 cx),(11,.int .i64 ((s1:Nat):Int))]) (fun (s1:Nat) W=>(s1≤10)∧(W.heap[gx]? = some (.cells (ints .u32 ((rounds s s1).map wv)++rx) 88))∧(Qas [gx] W14 W)∧(Ext w W)) (fun (s1:Nat)=>10-s1) 0 ⟨kj,kj,kj,kj,kj,trivial⟩ ⟨(Nat.zero_le _),rowx,(Qas.refl [gx] W14),(Ext.low (Ext.tr x12 e13) l14 x12.size)⟩ fun s1 X1 V1 hI1=>?_
 obtain ⟨i,hs1⟩:∃ z,z=s1:=⟨_,rfl⟩
 subst hs1
 obtain ⟨hi,q34_1,kk1,xx1⟩:=hI1
 replace hi:i≤10:=hi
 replace q34_1:V1.heap[gx]? = some (.cells (ints .u32 ((rounds s i).map wv)++rx) 88):=q34_1
 replace kk1:Qas [gx] W14 V1:=kk1
 replace xx1:Ext w V1:=xx1
 have q15:=kk1
 refine wp_seq_k fun K37 hK37=>sgB kj <| Qay (t:=decide (((i:Nat):Int)<10)) kj (fun c39=>?_) (fun c39=>?_)
 ·skip
  have hlt46:i<10:=by have:=of_decide_eq_true c39; omega
  obtain ⟨x0_,ex0⟩:∃ z:List Wd,z=rounds s i:=⟨_,rfl⟩
  have h0:x0_.length=16:=by rw [ex0,Qdm,hs]
  have r34_15_40:V1.heap[gx]? = some (.cells (ints .u32 ((x0_).map wv)++rx) 88):=Qbw q34_1 (by rw [ex0])
  refine wp_skip <| hK37 _ _ <| wp_seq_k fun K41 hK41=>wp_block <| wp_seq_k fun K42 hK42=>sgB kj <| wp_block <| wp_loop_rounds 5 ?_
  show Code.wp _ _ (Exit.then (Code.rounds _ _ _ 4) _) _ _
  refine wp_seq_k fun K44 hK44=>sgB kj <| cond_true kj <| wp_skip <| hK44 _ _ <| wp_seq_k fun K46 hK46=>wp_block <| Qai <| sg 8 kj <| Qat (fun v W'=>v=.tuple #[]∧ExtB gx V1 W'∧W'.heap[gx]? = some (.cells (ints .u32 ((rqrt x0_ 0 4 8 12).map wv)++rx) 88)) 77 #[.slice (some ⟨gx,0,none⟩) 16 cx,.int .i64 0,.int .i64 4,.int .i64 8,.int .i64 12] 61 rfl kj kj ((QcD gx cx rx x0_ 0 4 8 12 0 4 8 12 _ rfl rfl rfl rfl h0 (by decide) (by decide) (by decide) (by decide) r34_15_40).mono fun e w' h=>⟨_,h.1,rfl,h.2⟩) fun v W16 h=>?_
  obtain ⟨rfl,q16,r34_16⟩:=h
  obtain ⟨x1_,ex1⟩:∃ z:List Wd,z=qrt x0_ 0 4 8 12:=⟨_,rfl⟩
  have h1:x1_.length=16:=by rw [ex1,Qdg,h0]
  have r34_16_47:W16.heap[gx]? = some (.cells (ints .u32 ((x1_).map wv)++rx) 88):=Qbw r34_16 (by rw [ex1,(QgG x0_ h0).1])
  refine Qao <| hK46 _ _ <| sgA kj ?_
  show Code.rounds _ _ _ 4 _ _
  show Code.wp _ _ (Exit.then (Code.rounds _ _ _ 3) _) _ _
  refine wp_seq_k fun K48 hK48=>sgB kj <| cond_true kj <| wp_skip <| hK48 _ _ <| wp_seq_k fun K50 hK50=>wp_block <| Qai <| sg 8 kj <| Qat (fun v W'=>v=.tuple #[]∧ExtB gx W16 W'∧W'.heap[gx]? = some (.cells (ints .u32 ((rqrt x1_ 1 5 9 13).map wv)++rx) 88)) 77 #[.slice (some ⟨gx,0,none⟩) 16 cx,.int .i64 1,.int .i64 5,.int .i64 9,.int .i64 13] 61 rfl kj kj ((QcD gx cx rx x1_ 1 5 9 13 1 5 9 13 _ rfl rfl rfl rfl h1 (by decide) (by decide) (by decide) (by decide) r34_16_47).mono fun e w' h=>⟨_,h.1,rfl,h.2⟩) fun v W17 h=>?_
  obtain ⟨rfl,q17,r34_17⟩:=h
  have x17:=ExtB.up (ExtB.up xx1 q16 (qT x12.size lx)) q17 (qT x12.size lx)
  obtain ⟨x2_,ex2⟩:∃ z:List Wd,z=qrt x1_ 1 5 9 13:=⟨_,rfl⟩
  have h2:x2_.length=16:=by rw [ex2,Qdg,h1]
  have r34_17_51:W17.heap[gx]? = some (.cells (ints .u32 ((x2_).map wv)++rx) 88):=Qbw r34_17 (by rw [ex2,(QgG x1_ h1).2.1])
  refine Qao <| hK50 _ _ <| sgA kj ?_
  show Code.rounds _ _ _ 3 _ _
  show Code.wp _ _ (Exit.then (Code.rounds _ _ _ 2) _) _ _
  refine wp_seq_k fun K52 hK52=>sgB kj <| cond_true kj <| wp_skip <| hK52 _ _ <| wp_seq_k fun K54 hK54=>wp_block <| Qai <| sg 8 kj <| Qat (fun v W'=>v=.tuple #[]∧ExtB gx W17 W'∧W'.heap[gx]? = some (.cells (ints .u32 ((rqrt x2_ 2 6 10 14).map wv)++rx) 88)) 77 #[.slice (some ⟨gx,0,none⟩) 16 cx,.int .i64 2,.int .i64 6,.int .i64 10,.int .i64 14] 61 rfl kj kj ((QcD gx cx rx x2_ 2 6 10 14 2 6 10 14 _ rfl rfl rfl rfl h2 (by decide) (by decide) (by decide) (by decide) r34_17_51).mono fun e w' h=>⟨_,h.1,rfl,h.2⟩) fun v W18 h=>?_
  obtain ⟨rfl,q18,r34_18⟩:=h
  have x18:=ExtB.up x17 q18 (qT x12.size lx)
  obtain ⟨x3_,ex3⟩:∃ z:List Wd,z=qrt x2_ 2 6 10 14:=⟨_,rfl⟩
  have h3:x3_.length=16:=by rw [ex3,Qdg,h2]
  have r34_18_55:W18.heap[gx]? = some (.cells (ints .u32 ((x3_).map wv)++rx) 88):=Qbw r34_18 (by rw [ex3,(QgG x2_ h2).2.2.1])
  refine Qao <| hK54 _ _ <| sgA kj ?_
  show Code.rounds _ _ _ 2 _ _
  show Code.wp _ _ (Exit.then (Code.rounds _ _ _ 1) _) _ _
  refine wp_seq_k fun K56 hK56=>sgB kj <| cond_true kj <| wp_skip <| hK56 _ _ <| wp_seq_k fun K58 hK58=>wp_block <| Qai <| sg 8 kj <| Qat (fun v W'=>v=.tuple #[]∧ExtB gx W18 W'∧W'.heap[gx]? = some (.cells (ints .u32 ((rqrt x3_ 3 7 11 15).map wv)++rx) 88)) 77 #[.slice (some ⟨gx,0,none⟩) 16 cx,.int .i64 3,.int .i64 7,.int .i64 11,.int .i64 15] 61 rfl kj kj ((QcD gx cx rx x3_ 3 7 11 15 3 7 11 15 _ rfl rfl rfl rfl h3 (by decide) (by decide) (by decide) (by decide) r34_18_55).mono fun e w' h=>⟨_,h.1,rfl,h.2⟩) fun v W19 h=>?_
  obtain ⟨rfl,q19,r34_19⟩:=h
  obtain ⟨x4_,ex4⟩:∃ z:List Wd,z=qrt x3_ 3 7 11 15:=⟨_,rfl⟩
  have h4:x4_.length=16:=by rw [ex4,Qdg,h3]
  have r34_19_59:W19.heap[gx]? = some (.cells (ints .u32 ((x4_).map wv)++rx) 88):=Qbw r34_19 (by rw [ex4,(QgG x3_ h3).2.2.2.1])
  refine Qao <| hK58 _ _ <| sgA kj ?_
  show Code.rounds _ _ _ 1 _ _
  show Code.wp _ _ (Exit.then (Code.rounds _ _ _ 0) _) _ _
  refine wp_seq_k fun K60 hK60=>sgB kj <| cond_false kj <| wp_exit <| hK42 _ _ <| sgB kj <| wp_block <| wp_loop_rounds 5 ?_
  show Code.wp _ _ (Exit.then (Code.rounds _ _ _ 4) _) _ _
  refine wp_seq_k fun K63 hK63=>sgB kj <| cond_true kj <| wp_skip <| hK63 _ _ <| wp_seq_k fun K65 hK65=>wp_block <| Qai <| sg 14 kj <| Qat (fun v W'=>v=.tuple #[]∧ExtB gx W19 W'∧W'.heap[gx]? = some (.cells (ints .u32 ((rqrt x4_ 0 5 10 15).map wv)++rx) 88)) 77 #[.slice (some ⟨gx,0,none⟩) 16 cx,.int .i64 0,.int .i64 5,.int .i64 10,.int .i64 15] 80 rfl kj kj ((QcD gx cx rx x4_ 0 5 10 15 0 5 10 15 _ rfl rfl rfl rfl h4 (by decide) (by decide) (by decide) (by decide) r34_19_59).mono fun e w' h=>⟨_,h.1,rfl,h.2⟩) fun v W20 h=>?_
  obtain ⟨rfl,q20,r34_20⟩:=h
  obtain ⟨x5_,ex5⟩:∃ z:List Wd,z=qrt x4_ 0 5 10 15:=⟨_,rfl⟩
  have h5:x5_.length=16:=by rw [ex5,Qdg,h4]
  have r34_20_66:W20.heap[gx]? = some (.cells (ints .u32 ((x5_).map wv)++rx) 88):=Qbw r34_20 (by rw [ex5,(QgG x4_ h4).2.2.2.2.1])
  refine Qao <| hK65 _ _ <| sgA kj ?_
  show Code.rounds _ _ _ 4 _ _
  show Code.wp _ _ (Exit.then (Code.rounds _ _ _ 3) _) _ _
  refine wp_seq_k fun K67 hK67=>sgB kj <| cond_true kj <| wp_skip <| hK67 _ _ <| wp_seq_k fun K69 hK69=>wp_block <| Qai <| sg 14 kj <| Qat (fun v W'=>v=.tuple #[]∧ExtB gx W20 W'∧W'.heap[gx]? = some (.cells (ints .u32 ((rqrt x5_ 1 6 11 12).map wv)++rx) 88)) 77 #[.slice (some ⟨gx,0,none⟩) 16 cx,.int .i64 1,.int .i64 6,.int .i64 11,.int .i64 12] 80 rfl kj kj ((QcD gx cx rx x5_ 1 6 11 12 1 6 11 12 _ rfl rfl rfl rfl h5 (by decide) (by decide) (by decide) (by decide) r34_20_66).mono fun e w' h=>⟨_,h.1,rfl,h.2⟩) fun v W21 h=>?_
  obtain ⟨rfl,q21,r34_21⟩:=h
  obtain ⟨x6_,ex6⟩:∃ z:List Wd,z=qrt x5_ 1 6 11 12:=⟨_,rfl⟩
  have h6:x6_.length=16:=by rw [ex6,Qdg,h5]
  have r34_21_70:W21.heap[gx]? = some (.cells (ints .u32 ((x6_).map wv)++rx) 88):=Qbw r34_21 (by rw [ex6,(QgG x5_ h5).2.2.2.2.2.1])
  refine Qao <| hK69 _ _ <| sgA kj ?_
  show Code.rounds _ _ _ 3 _ _
  show Code.wp _ _ (Exit.then (Code.rounds _ _ _ 2) _) _ _
  refine wp_seq_k fun K71 hK71=>sgB kj <| cond_true kj <| wp_skip <| hK71 _ _ <| wp_seq_k fun K73 hK73=>wp_block <| Qai <| sg 14 kj <| Qat (fun v W'=>v=.tuple #[]∧ExtB gx W21 W'∧W'.heap[gx]? = some (.cells (ints .u32 ((rqrt x6_ 2 7 8 13).map wv)++rx) 88)) 77 #[.slice (some ⟨gx,0,none⟩) 16 cx,.int .i64 2,.int .i64 7,.int .i64 8,.int .i64 13] 80 rfl kj kj ((QcD gx cx rx x6_ 2 7 8 13 2 7 8 13 _ rfl rfl rfl rfl h6 (by decide) (by decide) (by decide) (by decide) r34_21_70).mono fun e w' h=>⟨_,h.1,rfl,h.2⟩) fun v W22 h=>?_
  obtain ⟨rfl,q22,r34_22⟩:=h
  obtain ⟨x7_,ex7⟩:∃ z:List Wd,z=qrt x6_ 2 7 8 13:=⟨_,rfl⟩
  have h7:x7_.length=16:=by rw [ex7,Qdg,h6]
  have r34_22_74:W22.heap[gx]? = some (.cells (ints .u32 ((x7_).map wv)++rx) 88):=Qbw r34_22 (by rw [ex7,(QgG x6_ h6).2.2.2.2.2.2.1])
  refine Qao <| hK73 _ _ <| sgA kj ?_
  show Code.rounds _ _ _ 2 _ _
  show Code.wp _ _ (Exit.then (Code.rounds _ _ _ 1) _) _ _
  refine wp_seq_k fun K75 hK75=>sgB kj <| cond_true kj <| wp_skip <| hK75 _ _ <| wp_seq_k fun K77 hK77=>wp_block <| Qai <| sg 14 kj <| Qat (fun v W'=>v=.tuple #[]∧ExtB gx W22 W'∧W'.heap[gx]? = some (.cells (ints .u32 ((rqrt x7_ 3 4 9 14).map wv)++rx) 88)) 77 #[.slice (some ⟨gx,0,none⟩) 16 cx,.int .i64 3,.int .i64 4,.int .i64 9,.int .i64 14] 80 rfl kj kj ((QcD gx cx rx x7_ 3 4 9 14 3 4 9 14 _ rfl rfl rfl rfl h7 (by decide) (by decide) (by decide) (by decide) r34_22_74).mono fun e w' h=>⟨_,h.1,rfl,h.2⟩) fun v W23 h=>?_
  obtain ⟨rfl,q23,r34_23⟩:=h
  obtain ⟨x8_,ex8⟩:∃ z:List Wd,z=qrt x7_ 3 4 9 14:=⟨_,rfl⟩
  have h8:x8_.length=16:=by rw [ex8,Qdg,h7]
  have r34_23_78:W23.heap[gx]? = some (.cells (ints .u32 ((x8_).map wv)++rx) 88):=Qbw r34_23 (by rw [ex8,(QgG x7_ h7).2.2.2.2.2.2.2])
  refine Qao <| hK77 _ _ <| sgA kj ?_
  show Code.rounds _ _ _ 1 _ _
  show Code.wp _ _ (Exit.then (Code.rounds _ _ _ 0) _) _ _
  refine wp_seq_k fun K79 hK79=>sgB kj <| cond_false kj <| wp_exit <| hK41 _ _ <| Qai <| sg 1 kj <| Qab (.int .i64 ((i+1:Nat):Int)) 48 rfl kj (Qaf (u:=.int .i64 (IntKind.i64.wrap (((i:Nat):Int)+1))) kj (congrArg (Value.int .i64) (i64n _ _ (by omega) (by omega)))) <| sg 1 kj <| Qao ?_
  have r34_23_81:W23.heap[gx]? = some (.cells (ints .u32 ((rounds s (i+1)).map wv)++rx) 88):=Qbw r34_23_78 (by rw [ex8,ex7,ex6,ex5,ex4,ex3,ex2,ex1,ex0]; rfl)
  repeat (first | with_reducible refine goX1 ?_ | with_reducible refine goX2 ?_ | with_reducible refine goX3 ?_)
  exact Qax (i+1) ⟨kj,kj,kj,kj,kj,trivial⟩ ⟨(by omega),r34_23_81,(Qas.but (Qas.but (Qas.but (Qas.but (Qas.but (Qas.but (Qas.but (Qas.but q15 q16 (.inl (by simp))) q17 (.inl (by simp))) q18 (.inl (by simp))) q19 (.inl (by simp))) q20 (.inl (by simp))) q21 (.inl (by simp))) q22 (.inl (by simp))) q23 (.inl (by simp))),(ExtB.up (ExtB.up (ExtB.up (ExtB.up (ExtB.up x18 q19 (qT x12.size lx)) q20 (qT x12.size lx)) q21 (qT x12.size lx)) q22 (qT x12.size lx)) q23 (qT x12.size lx))⟩ (by omega)
 ·skip
  have heq46:i=10:=by have:=of_decide_eq_false c39; omega
  obtain ⟨xF,exF⟩:∃ z:List Wd,z=rounds s 10:=⟨_,rfl⟩
  have hxF:xF.length=16:=by rw [exF,Qdm,hs]
  subst heq46
  have r34_15_82:V1.heap[gx]? = some (.cells (ints .u32 ((xF).map wv)++rx) 88):=Qbw q34_1 (by rw [exF])
  refine wp_exit <| hK35 _ _ <| wp_seq_k fun K83 hK83=>sgB kj <| wp_block ?_
  have hP:(QbI xF s).length=64:=Qe8 _ _
  refine Qa5 (fun (s2:Nat)=>[(6,.pointer (some ⟨g3,0,none⟩)),(8,.pointer (some ⟨g5,0,none⟩)),(9,.slice a9 ((s.map wv).length) c9),(10,.slice (some ⟨gx,0,none⟩) 16 cx),(14,.int .i64 ((s2:Nat):Int))]) (fun (s2:Nat) W=>(s2≤64)∧(W.heap[g5]? = some (.cells (ints .u8 (Qby (QbI xF s) 64 (s2))) 90))∧(Qas [g5] V1 W)∧(Ext w W)) (fun (s2:Nat)=>64-s2) 0 ⟨kj,kj,kj,kj,kj,trivial⟩ ⟨(Nat.zero_le _),(QaF (Qas.row q15 (Qbf l14 (Qaa r5_12 e13) (Qau r5_12)) (QaC (Ne.symm nx8) QaS)) (QbG _ 64)),(Qas.refl [g5] V1),xx1⟩ fun s2 X2 V2 hI2=>?_
  obtain ⟨i,hs2⟩:∃ z,z=s2:=⟨_,rfl⟩
  subst hs2
  obtain ⟨hi,q5_2,kk2,xx2⟩:=hI2
  replace hi:i≤64:=hi
  replace q5_2:V2.heap[g5]? = some (.cells (ints .u8 (Qby (QbI xF s) 64 (i))) 90):=q5_2
  replace kk2:Qas [g5] V1 V2:=kk2
  replace xx2:Ext w V2:=xx2
  have q16:=kk2
  refine wp_seq_k fun K85 hK85=>sgB kj <| Qay (t:=decide (((i:Nat):Int)<64)) kj (fun c87=>?_) (fun c87=>?_)
  ·skip
   have hlt82:i<64:=by have:=of_decide_eq_true c87; omega
   have hns_88:(s.map wv).length=16:=(Qbi hs)
   obtain ⟨gcs_88,ocs_88,has_88,hls_88,hcs_88⟩:=QhU (OwnN.rd (OwnN.keepsL (OwnN.keepsL (OwnN.low (n:=0) (hF9.ext e13) hF9 l14) q15 (Qfr nb9 QgU)) q16 (Qfr nb9b QgU))) (by rw [hns_88]; omega)
   refine wp_skip <| hK85 _ _ <| wp_seq_k fun K93 hK93=>wp_block <| QaD 18 [⟨none,[(14,none)]⟩,⟨none,[(10,none)]⟩,⟨none,[(14,none)]⟩,⟨none,[(87,some 2)]⟩,⟨none,[(86,some 1),(88,some 3)]⟩,⟨none,[(89,some 4)]⟩,⟨none,[(9,none)]⟩,⟨none,[(14,none)]⟩,⟨none,[(92,some 7)]⟩,⟨none,[(91,some 6),(93,some 8)]⟩,⟨none,[(94,some 9)]⟩,⟨none,[(90,some 5),(95,some 10)]⟩,⟨none,[(14,none)]⟩,⟨none,[(97,some 12)]⟩,⟨none,[(98,some 13)]⟩,⟨none,[(99,some 14)]⟩,⟨none,[(96,some 11),(100,some 15)]⟩,⟨none,[(101,some 16)]⟩] kj kj fun F hF=>Qar (Qag _) (.int .i64 ((i:Nat):Int)) kj kj (fun W=>by kernel_rfl) <| Qar (Qag _) (.slice (some ⟨gx,0,none⟩) 16 cx) kj kj (fun W=>by kernel_rfl) <| Qar (Qag _) (.int .i64 ((i:Nat):Int)) kj kj (fun W=>by kernel_rfl) <| Qar (Qag _) (.int .i64 ((i/4:Nat):Int)) kj kj (fun W=>(Qaf (u:=.int .i64 (IntKind.i64.wrap (Int.tdiv (((i:Nat):Int)) (4)))) kj (congrArg (Value.int .i64) (Qd5 _ 4 (by omega))))) <| Qar (Qag _) (.pointer (some ⟨gx,(i/4),none⟩)) kj kj (fun W=>(Qaw 124 _ _ .i64 (i/4) gx 16 cx 88 rfl kj kj kj kj (by omega))) ?_
   have r34_16:=(Qas.row q16 r34_15_82 (QaC nx8 QaS))
   refine QaR (Qag _) (.int .u32 (wv (wget xF (i/4)))) kj kj (fun W hR=>(Qah 88 _ gx (i/4) 88 _ (.int .u32 (wv (wget xF (i/4)))) _ (Qaa (Qaa r34_16 (Qak _)) hR) rfl kj ((Qbc (Nat.lt_of_lt_of_eq (by omega) (Qbi hxF).symm)).trans (congrArg (fun z=>some (Value.int .u32 z)) (Qbh xF (i/4)))) kj)) <| Qar (Qag _) (.slice a9 ((s.map wv).length) c9) kj kj (fun W=>by kernel_rfl) <| Qar (Qag _) (.int .i64 ((i:Nat):Int)) kj kj (fun W=>by kernel_rfl) <| Qar (Qag _) (.int .i64 ((i/4:Nat):Int)) kj kj (fun W=>(Qaf (u:=.int .i64 (IntKind.i64.wrap (Int.tdiv (((i:Nat):Int)) (4)))) kj (congrArg (Value.int .i64) (Qd5 _ 4 (by omega))))) <| Qar (Qag _) (.pointer (some ⟨gcs_88,ocs_88+(i/4),none⟩)) kj kj (fun W=>(QaN 124 _ _ .i64 (i/4) gcs_88 ocs_88 ((s.map wv).length) c9 88 a9 _ has_88 rfl rfl kj kj kj kj (Nat.lt_of_lt_of_eq (show i/4<16 by omega) hns_88.symm))) <| QaR (Qag _) (.int .u32 (wv (wget s (i/4)))) kj kj (fun W hR=>(Qaz 88 _ _ (.int .u32 (wv (wget s (i/4)))) (((Below.cell (Rely.Ext.trans (Qak _) hR) hls_88).trans (hcs_88 (i/4) (Nat.lt_of_lt_of_eq (show i/4<16 by omega) hns_88.symm))).trans (congrArg (fun z=>some (Value.int .u32 z)) (Qbh s (i/4)))) rfl kj kj)) <| Qar (Qag _) (.int .u32 (wv (((wget xF (i/4)))+((wget s (i/4)))))) kj kj (fun W=>(Qaf kj (congrArg (Value.int .u32) (QcF _ _)))) <| Qar (Qag _) (.int .i64 ((i:Nat):Int)) kj kj (fun W=>by kernel_rfl) <| Qar (Qag _) (.int .i64 ((i%4:Nat):Int)) kj kj (fun W=>(Qaf (u:=.int .i64 (Int.tmod (((i:Nat):Int)) (4))) kj (congrArg (Value.int .i64) (Qct _ 4)))) <| Qar (Qag _) (.int .i64 ((8*(i%4):Nat):Int)) kj kj (fun W=>(Qaf (u:=.int .i64 (IntKind.i64.wrap (8*((i%4:Nat):Int)))) kj (congrArg (Value.int .i64) (i64n _ _ (by omega) (by omega))))) ?_
   refine Qar (Qag _) (.int .u64 (((8*(i%4):Nat):Int))) kj kj (fun W=>(Qaf (u:=.int .u64 (IntKind.u64.wrap ((8*(i%4):Nat):Int))) kj (congrArg (Value.int .u64) (Qla _ (by omega))))) <| Qar (Qag _) (.int .u32 (wv ((wget xF (i/4)+wget s (i/4))>>>(8*(i%4))))) kj kj (fun W=>(Qbp .shr _ _ _ _ .u32 .u64 _ _ _ rfl kj kj (Qdx _ _ _ _ _ _ (by omega) (Qgv _ _ (8*(i%4)) rfl (by omega))))) <| Qar (Qag _) (.int .u8 (nth (QbI xF s) i)) kj kj (fun W=>(Qaf (u:=.int .u8 (IntKind.u8.wrap (wv ((wget xF (i/4)+wget s (i/4))>>>(8*(i%4)))))) kj (congrArg (Value.int .u8) (QmT xF s i hlt82)))) <| QbN (hF _ fun W17 e17=>?_)
   simp only [List.nil_append,List.cons_append,List.take_succ_cons,List.take_zero,List.drop_succ_cons,List.drop_zero,finE,up]
   clear hF
   have x17:=Ext.tr xx2 e17
   refine Qab (.pointer (some ⟨g5,i,none⟩)) 103 rfl kj (QaE _ _ _ .i64 (i) _ 64 5 rfl kj kj kj kj (by omega)) ?_
   have r5_17:=(Qaa q5_2 e17)
   refine Qal g5 _ (ints .u8 ((Qby (QbI xF s) 64 (i)).set i (nth (QbI xF s) i))) 90 r5_17 rfl kj (Qa1 5 _ _ g5 i 90 _ _ r5_17 rfl kj kj kj (Nat.lt_of_lt_of_eq (by omega) (QbK _ 64 _ hP (by omega)).symm)) fun W18 p18 r5_18=>?_
   have x18:=Puts.ext p18 x17 (qT x2.size l5)
   refine Qao <| hK93 _ _ <| Qai <| sg 1 kj <| Qab (.int .i64 ((i+1:Nat):Int)) 84 rfl kj (Qaf (u:=.int .i64 (IntKind.i64.wrap (((i:Nat):Int)+1))) kj (congrArg (Value.int .i64) (i64n _ _ (by omega) (by omega)))) <| sg 1 kj <| Qao ?_
   repeat (first | with_reducible refine goX1 ?_ | with_reducible refine goX2 ?_ | with_reducible refine goX3 ?_)
   exact Qax (i+1) ⟨kj,kj,kj,kj,kj,trivial⟩ ⟨(by omega),(QaF r5_18 (QbH _ 64 i hP (by omega))),(Qas.puts (Qas.step q16 e17) p18 (.inl (by simp))),x18⟩ (by omega)
  ·skip
   have heq82:i=64:=by have:=of_decide_eq_false c87; omega
   subst heq82
   have r5_16_94:V2.heap[g5]? = some (.cells (ints .u8 (QbI xF s)) 90):=QaF q5_2 (Qcd _ 64 hP)
   refine wp_exit <| hK83 _ _ <| sgC fun K95 hK95=>Qab (.agg (ints .u8 (QbI xF s))) 104 rfl kj (Qap 90 _ g5 90 _ _ r5_16_94 rfl kj kj (isz (n:=64) kj ((Qac _ _).trans hP))) ?_
   have r3_3:=(Qaa r3_2 e3)
   have r3_5:=(Puts.row p5 (Qaa r3_3 e4) (Qae r3_3 l11))
   have r3_12:=(Qbf l12 (Qaa (Qbf l10 (Qaa (Qbf l8 (Qaa (Qaa r3_5 e6) e7) (Qau r3_5)) e9) (Qau r3_5)) e11) (Qau r3_5))
   have r3_16:=(Qas.row q16 (Qas.row q15 (Qbf l14 (Qaa r3_12 e13) (Qau r3_12)) (QaC (Qae r3_12 lx) QaS)) (QaC (Qae r3_2 l5) QaS))
   refine Qal g3 _ (ints .u8 (QbI xF s)) 90 r3_16 rfl kj (Qan 90 _ _ g3 90 _ _ r3_16 rfl kj kj (isz (n:=64) kj ((Qac _ _).trans hP)) (eqsz (n:=64) ((Qac _ _).trans (List.length_replicate (n:=64))) ((Qac _ _).trans hP)) (Qav _ _)) fun W17 p17 r3_17=>?_
   have x17:=Puts.ext p17 xx2 (qT x1.size l3)
   refine sg 1 kj <| sgN hK95 <| wp_ret ?_
   repeat (first | with_reducible refine goR1 ?_ | with_reducible refine goR2 ?_)
   exact (show bodyPost _ _ _ .ret _ _ from ret2 (.agg (ints .u8 (QbI xF s))) (.int .i64 0) rfl (QaU g3 90 _ r3_17 kj kj (isz (n:=64) kj ((Qac _ _).trans hP))) (Qa0 kj) ⟨by unfold Qbb; rw [exF,es],x17⟩)
end Go.Proofs.YtophlgnnjjkkiaaDoor.Cha
end
section
namespace Go.Proofs.YtophlgnnjjkkiaaDoor.Cha
open Go Go.RowKit
open Rely Auto Own Sha
open Sha
set_option maxRecDepth 100000 in
theorem QmG (key nonce text:List Int) (v v2:Value) (B B2:Nat) (number:Int) (w:World) (hkl:key.length=32) (hkb:Qaj key) (hnb:Qaj nonce) (hn:RdK .u8 B nonce v w) (ht:RdK .u8 B2 text v2 w) (h:nonce.length=12) (r:Nat) (hr:number+(r:Int)=4294967296) (h1:0≤number) (h2:number≤4294967295) (hfit:text.length≤64*r) (htl:text.length≤2000000):Calls Tryd.prog 49 #[.agg (ints .u8 key),v,.int .i64 number,v2] w (Qb8 w (fun v W=>∃ u,v=.tuple #[u,.int .i64 0]∧OwnN .u8 5 w.heap.size (mixV (QaO key nonce) number text) u W)):=by
 obtain ⟨a_n,c_n,rfl,-⟩:=id hn
 obtain ⟨a_t,c_t,rfl,-⟩:=id ht
 refine enter 58 [(0,.agg (ints .u8 (key))),(1,.slice a_n nonce.length c_n),(2,.int .i64 number),(3,.slice a_t text.length c_t)] Tryd.func49 rfl rfl kj rfl <| sgC fun K1 hK1=>Qaq (ints .u8 (key)) 23 4 rfl kj kj fun g2 W1 l2 e1 r2_1=>?_
 have x1:=Ext.tr (Rely.Ext.refl w) e1
 have b2:=qT (Rely.Ext.refl w).size l2
 refine sg 2 kj <| sgN hK1 <| wp_seq_k fun K3 hK3=>sgC fun K4 hK4=>Qab (.agg (ints .u8 (key))) 17 rfl kj (Qap 23 _ g2 23 _ _ r2_1 rfl kj kj (isz (n:=32) kj ((Qac _ _).trans hkl))) <| sg 2 kj <| Qa6 (.tuple #[.agg (ints .u8 (Qbb (QaO key nonce) (number))),.int .i64 0]) 62 #[.agg (ints .u8 (key)),.slice a_n nonce.length c_n,.int .i64 number] 20 rfl kj kj ((Qge key nonce _ _ number _ hkl (RdK.ext hn x1) h (by omega) (by omega) hkb hnb)) fun W2 e2=>?_
 have x2:=Ext.tr x1 e2
 refine sg 3 kj <| Qaq (ints .u8 (List.replicate 64 0)) 90 10 rfl kj kj fun g5 W3 l5 e3 r5_3=>Qal g5 _ (ints .u8 (Qbb (QaO key nonce) (number))) 90 r5_3 rfl kj (Qan 90 _ _ g5 90 _ _ r5_3 rfl kj kj (isz (n:=64) kj ((Qac _ _).trans (Qbk _ _))) (eqsz (n:=64) ((Qac _ _).trans (List.length_replicate (n:=64))) ((Qac _ _).trans (Qbk _ _))) (Qav _ _)) fun W4 p4 r5_4=>?_
 have x4:=Puts.ext p4 (Ext.tr x2 e3) (qT x2.size l5)
 refine sg 1 kj <| sgN hK4 <| sgB kj <| cond_false kj <| wp_skip <| hK3 _ _ <| sgB kj <| wp_seq_k fun K8 hK8=>sgB kj <| wp_block ?_
 refine Qa5 (fun (s1:Nat×Value)=>[(1,.slice a_n nonce.length c_n),(2,.int .i64 number),(3,.slice a_t text.length c_t),(4,.pointer (some ⟨g2,0,none⟩)),(12,s1.2),(13,.int .i64 ((s1.1:Nat):Int))]) (fun (s1:Nat×Value) W=>(s1.1≤text.length)∧(OwnN .u8 5 W4.heap.size (mxv text (QaO key nonce) number id s1.1) s1.2 W)∧(Ext W4 W)∧(Ext w W)) (fun (s1:Nat×Value)=>text.length-s1.1) (0,(.slice none 0 0)) ⟨kj,kj,kj,kj,kj,kj,trivial⟩ ⟨(Nat.zero_le _),(Qbz _ _ _ _),(Rely.Ext.refl W4),x4⟩ fun s1 X1 V1 hI1=>?_
 obtain ⟨i,u⟩:=s1
 obtain ⟨hi,hu,kk1,xx1⟩:=hI1
 replace hi:i≤text.length:=hi
 replace hu:OwnN .u8 5 W4.heap.size (mxv text (QaO key nonce) number id i) u V1:=hu
 replace kk1:Ext W4 V1:=kk1
 replace xx1:Ext w V1:=xx1
 have e5:=kk1
 refine wp_seq_k fun K10 hK10=>sgB kj <| Qay (t:=decide (((i:Nat):Int)<((text.length:Nat):Int))) kj (fun c12=>?_) (fun c12=>?_)
 ·skip
  have hlt:i<text.length:=by have:=of_decide_eq_true c12; omega
  obtain ⟨gt,ot,hat,-,hlt_,hct⟩:=QbF (RdK.ext ht xx1) (by omega)
  refine wp_skip <| hK10 _ _ <| wp_seq_k fun K13 hK13=>wp_block <| sgC fun K14 hK14=>?_
  have r2_2:=(Qaa r2_1 e2)
  refine Qab (.agg (ints .u8 (key))) 33 rfl kj (Qap 23 _ g2 23 _ _ (Qaa (Puts.row p4 (Qaa r2_2 e3) (Qae r2_2 l5)) e5) rfl kj kj (isz (n:=32) kj ((Qac _ _).trans hkl))) <| sg 3 kj <| Qab (.int .i64 ((i/64:Nat):Int)) 37 rfl kj (Qaf (u:=.int .i64 (IntKind.i64.wrap (Int.tdiv (((i:Nat):Int)) (64)))) kj (congrArg (Value.int .i64) (Qd5 _ 64 (by omega)))) <| Qab (.int .i64 (number+((i/64:Nat):Int))) 38 rfl kj (Qaf (u:=.int .i64 (IntKind.i64.wrap (number+((i/64:Nat):Int)))) kj (congrArg (Value.int .i64) (IntWalk.i64_in _ (by omega)))) <| Qa6 (.tuple #[.agg (ints .u8 (Qbb (QaO key nonce) (number+((i/64:Nat):Int)))),.int .i64 0]) 62 #[.agg (ints .u8 (key)),.slice a_n nonce.length c_n,.int .i64 (number+((i/64:Nat):Int))] 39 rfl kj kj ((Qge key nonce _ _ (number+((i/64:Nat):Int)) _ hkl (RdK.ext hn xx1) h (by omega) (by omega) hkb hnb)) fun W6 e6=>?_
  have x6:=Ext.tr xx1 e6
  refine sg 3 kj <| Qaq (ints .u8 (List.replicate 64 0)) 90 14 rfl kj kj fun g15 W7 l15 e7 r15_7=>Qal g15 _ (ints .u8 (Qbb (QaO key nonce) (number+((i/64:Nat):Int)))) 90 r15_7 rfl kj (Qan 90 _ _ g15 90 _ _ r15_7 rfl kj kj (isz (n:=64) kj ((Qac _ _).trans (Qbk _ _))) (eqsz (n:=64) ((Qac _ _).trans (List.length_replicate (n:=64))) ((Qac _ _).trans (Qbk _ _))) (Qav _ _)) fun W8 p8 r15_8=>?_
  have x8:=Puts.ext p8 (Ext.tr x6 e7) (qT x6.size l15)
  refine sg 1 kj <| sgN hK14 <| wp_seq_k fun K16 hK16=>sgB kj <| cond_false kj <| wp_skip <| hK16 _ _ <| QaD 11 [⟨none,[(12,none)]⟩,⟨none,[(3,none)]⟩,⟨none,[(13,none)]⟩,⟨none,[(46,some 1),(47,some 2)]⟩,⟨none,[(48,some 3)]⟩,⟨none,[(13,none)]⟩,⟨none,[(50,some 5)]⟩,⟨none,[(14,none),(51,some 6)]⟩,⟨none,[(52,some 7)]⟩,⟨none,[(49,some 4),(53,some 8)]⟩,⟨none,[(54,some 9)]⟩] kj kj fun F hF=>Qar (Qag _) (u) kj kj (fun W=>by kernel_rfl) <| Qar (Qag _) (.slice a_t text.length c_t) kj kj (fun W=>by kernel_rfl) ?_
  refine Qar (Qag _) (.int .i64 ((i:Nat):Int)) kj kj (fun W=>by kernel_rfl) <| Qar (Qag _) (.pointer (some ⟨gt,ot+i,none⟩)) kj kj (fun W=>(QaN 33 _ _ .i64 i gt ot text.length c_t 5 a_t _ hat rfl rfl kj kj kj kj (Nat.lt_of_lt_of_eq (show i<text.length by omega) (rfl:text.length=text.length).symm))) ?_
  have y5_6:=(Rely.Ext.trans (Rely.Ext.refl V1) e6)
  refine QaR (Qag _) (.int .u8 (nth (text) (i))) kj kj (fun W hR=>(Qaz 5 _ _ (.int .u8 (nth (text) (i))) ((Below.cell (Rely.Ext.trans (Rely.Ext.trans (Puts.ext p8 (Rely.Ext.trans y5_6 e7) (qT y5_6.size l15)) (Qak _)) hR) hlt_).trans (hct i (Nat.lt_of_lt_of_eq (show i<text.length by omega) (rfl:text.length=text.length).symm))) rfl kj kj)) <| Qar (Qag _) (.int .i64 ((i:Nat):Int)) kj kj (fun W=>by kernel_rfl) <| Qar (Qag _) (.int .i64 ((i%64:Nat):Int)) kj kj (fun W=>(Qaf (u:=.int .i64 (Int.tmod (((i:Nat):Int)) (64))) kj (congrArg (Value.int .i64) (Qct _ 64)))) <| Qar (Qag _) (.pointer (some ⟨g15,i%64,none⟩)) kj kj (fun W=>(QaE _ _ _ .i64 (i%64) _ 64 5 rfl kj kj kj kj (by omega))) <| QaR (Qag _) (.int .u8 (nth (Qbb (QaO key nonce) (number+((i/64:Nat):Int))) (i%64))) kj kj (fun W hR=>(Qah 5 _ g15 (i%64) 90 _ (.int .u8 (nth (Qbb (QaO key nonce) (number+((i/64:Nat):Int))) (i%64))) _ (Qaa (Qaa r15_8 (Qak _)) hR) rfl kj (QaM _ _ _ (Nat.lt_of_lt_of_eq (by omega) (Qbk _ _).symm)) kj)) <| Qar (Qag _) (.int .u8 (bits .xor .u8 ((nth (text) (i))) ((nth (Qbb (QaO key nonce) (number+((i/64:Nat):Int))) (i%64))))) kj kj (fun W=>by kernel_rfl) <| Qiq (Qag _) (ints .u8 ([(bits .xor .u8 ((nth (text) (i))) ((nth (Qbb (QaO key nonce) (number+((i/64:Nat):Int))) (i%64))))])) 5 1 (NewS.stable _ _ _ _) kj kj (fun W=>by kernel_rfl) <| QbN (hF _ fun W9 e9=>?_)
  simp only [List.nil_append,List.cons_append,List.take_succ_cons,List.take_zero,List.drop_succ_cons,List.drop_zero,finE,up]
  intro vv18 hv18
  clear hF
  obtain ⟨g18,rfl,l18,r18_9⟩:=hv18
  have b18:=qT x8.size l18
  have f19_6:=(hu.ext e6)
  have y4_6:=(Rely.Ext.trans e5 e6)
  refine QaH (k:=.u8) (T:=5) (xs:=mxv text (QaO key nonce) number id i) (ys:=[(bits .xor .u8 ((nth (text) (i))) ((nth (Qbb (QaO key nonce) (number+((i/64:Nat):Int))) (i%64))))]) (V:=W4) 1 (.tmp 45) (.tmp 55) 33 rfl kj kj (by decide) 56 rfl kj kj kj (((f19_6.ext e7).puts p8 (QfG f19_6 l15)).ext e9) (QaI (xs:=[(bits .xor .u8 ((nth (text) (i))) ((nth (Qbb (QaO key nonce) (number+((i/64:Nat):Int))) (i%64))))]) (n:=1) rfl r18_9 (Qau r18_9) (show 1≤maxLen from by decide)) (by rw [QdI]; show _+1≤_; omega) (Rely.Ext.trans (Puts.ext p8 (Rely.Ext.trans y4_6 e7) (qT y4_6.size l15)) e9) fun z1 W10 f23 y10 l10=>?_
  refine sg 1 kj <| Qao <| hK13 _ _ <| Qai <| sg 1 kj <| Qab (.int .i64 ((i+1:Nat):Int)) 31 rfl kj (Qaf (u:=.int .i64 (IntKind.i64.wrap (((i:Nat):Int)+1))) kj (congrArg (Value.int .i64) (i64n _ _ (by omega) (by omega)))) <| sg 1 kj <| Qao ?_
  repeat (first | with_reducible refine goX1 ?_ | with_reducible refine goX2 ?_ | with_reducible refine goX3 ?_)
  exact Qax ((i+1),z1) ⟨kj,kj,kj,kj,kj,kj,trivial⟩ ⟨(by omega),(by rw [QkB]; exact f23),y10,(Ext.low (Ext.tr x8 e9) l10 x4.size)⟩ (by show text.length-(i+1)<text.length-i; omega)
 ·skip
  have hge:text.length=i:=by have:=of_decide_eq_false c12; omega
  refine wp_exit <| hK8 _ _ <| sgB kj <| wp_ret ?_
  repeat (first | with_reducible refine goR1 ?_ | with_reducible refine goR2 ?_)
  exact (show bodyPost _ _ _ .ret _ _ from ret2 (u) (.int .i64 0) rfl (Qa0 kj) (Qa0 kj) ⟨_,rfl,xx1,u,rfl,by unfold mixV; rw [hge]; exact OwnN.base x4.size hu⟩)
end Go.Proofs.YtophlgnnjjkkiaaDoor.Cha
end
section
namespace Go.Proofs.YtophlgnnjjkkiaaDoor.Ae
open Go Go.RowKit
open Rely Auto Own Sha
open Sha Cha
theorem Qir (n : Int) (i:Nat) (h:i<8):(by8 n).take (i+1)=(by8 n).take i++[nth (by8 n) i]:=Qdi (by8 n) i (by rw [QbT]; exact h)
theorem QjW (n : Int) (i:Nat):n/p256 i/256=n/p256 (i+1):=by
  rw [Qcb,Int.mul_comm,Int.ediv_ediv_of_nonneg (by have:=Qcp i; omega)]
theorem Qez (n : Int) (i:Nat) (h:0≤n) (hn:n≤5000000000):0≤n/p256 i∧n/p256 i≤5000000000:=by
  have h1:=Int.ediv_nonneg h (Int.le_of_lt (Qcp i))
  have h2:=Int.ediv_le_self (p256 i) h
  omega
theorem Qis (n : Int) (i:Nat) (h:i<8):IntKind.u8.wrap (n/p256 i%256)=nth (by8 n) i:=by
  have h3:∀ z:Int,IntKind.u8.wrap z=z%256:=fun _=>rfl
  rw [h3,QjX n i h]; omega
theorem Qjv (n j:Nat) (h:j≤(16-n%16)%16) (h0:(n+j)%16=0):j=(16-n%16)%16:=by omega
theorem QhZ (n j:Nat) (h:j≤(16-n%16)%16) (h0:(n+j)%16≠0):j+1≤(16-n%16)%16:=by omega
theorem QhT (j : Nat):List.replicate j (0:Int)++[0]=List.replicate (j+1) 0:=(List.replicate_succ' ..).symm
theorem Qlp (n : Nat) (w:World) (hn:n≤5000000000):Calls Tryd.prog 63 #[.int .i64 ((n:Nat):Int)] w (Qb8 w (OwnN .u8 5 w.heap.size (by8 ((n:Nat):Int)))):=by
 refine enter 18 [(0,.int .i64 ((n:Nat):Int))] Tryd.func63 rfl rfl kj rfl <| sgB kj <| sgB kj <| wp_seq_k fun K3 hK3=>sgB kj <| wp_block <| Qa5 (fun (s1:Nat×Value)=>[(0,.int .i64 (((n:Nat):Int)/p256 s1.1)),(2,.slice none 0 0),(3,s1.2),(4,.int .i64 ((s1.1:Nat):Int))]) (fun (s1:Nat×Value) W=>(s1.1≤8)∧(OwnN .u8 5 w.heap.size ((by8 ((n:Nat):Int)).take s1.1) s1.2 W)∧(Ext w W)∧(Ext w W)) (fun (s1:Nat×Value)=>8-s1.1) (0,(.slice none 0 0)) ⟨(show Value.int .i64 ((n:Nat):Int)=Value.int .i64 (((n:Nat):Int)/p256 0) from by rw [QfD,Int.ediv_one]),kj,kj,kj,trivial⟩ ⟨(Nat.zero_le _),(by rw [List.take_zero]; exact Qbz _ _ _ _),(Rely.Ext.refl w),(Rely.Ext.refl w)⟩ fun s1 X1 V1 hI1=>?_
 obtain ⟨i,u⟩:=s1
 obtain ⟨hi,hu,kk1,xx1⟩:=hI1
 replace hi:i≤8:=hi
 replace hu:OwnN .u8 5 w.heap.size ((by8 ((n:Nat):Int)).take i) u V1:=hu
 replace kk1:Ext w V1:=kk1
 replace xx1:Ext w V1:=xx1
 have e1:=kk1
 refine wp_seq_k fun K5 hK5=>sgB kj <| Qay (t:=decide (((i:Nat):Int)<8)) kj (fun c7=>?_) (fun c7=>?_)
 ·skip
  have hlt6:i<8:=by have:=of_decide_eq_true c7; omega
  have hrg:=Qez ((n:Nat):Int) i (by omega) (by omega)
  refine wp_skip <| hK5 _ _ <| wp_seq_k fun K8 hK8=>wp_block <| sgC fun K9 hK9=>sg 2 kj <| Qab (.int .i64 (((n:Nat):Int)/p256 i%256)) 11 rfl kj (Qaf (u:=.int .i64 (Int.tmod ((((n:Nat):Int)/p256 i)) (256))) kj (congrArg (Value.int .i64) (show Int.tmod (((n:Nat):Int)/p256 i) 256=((n:Nat):Int)/p256 i%256 from Int.tmod_eq_emod_of_nonneg hrg.1))) <| Qab (.int .u8 (nth (by8 ((n:Nat):Int)) i)) 12 rfl kj (Qaf (u:=.int .u8 (IntKind.u8.wrap (((n:Nat):Int)/p256 i%256))) kj (congrArg (Value.int .u8) (Qis _ i hlt6))) <| Qa7 (ints .u8 ([(nth (by8 ((n:Nat):Int)) i)])) 5 1 13 rfl kj kj fun g10 W2 l10 e2 r10_2=>?_
  have b10:=qT xx1.size l10
  refine QaH (k:=.u8) (T:=5) (xs:=(by8 ((n:Nat):Int)).take i) (ys:=[(nth (by8 ((n:Nat):Int)) i)]) (V:=w) 1 (.tmp 9) (.tmp 13) 33 rfl kj kj (by decide) 14 rfl kj kj kj (hu.ext e2) (QaI (xs:=[(nth (by8 ((n:Nat):Int)) i)]) (n:=1) rfl r10_2 (Qau r10_2) (show 1≤maxLen from by decide)) (by rw [List.length_take,QbT]; show _+1≤_; omega) (Rely.Ext.trans e1 e2) fun z1 W3 f12 y3 l3=>?_
  refine sg 1 kj <| sgN hK9 <| Qai <| sg 1 kj <| Qab (.int .i64 (((n:Nat):Int)/p256 (i+1))) 16 rfl kj (Qaf (u:=.int .i64 (IntKind.i64.wrap (Int.tdiv ((((n:Nat):Int)/p256 i)) (256)))) kj (congrArg (Value.int .i64) (by rw [show Int.tdiv (((n:Nat):Int)/p256 i) 256=((n:Nat):Int)/p256 i/256 from Int.tdiv_eq_ediv_of_nonneg hrg.1,QjW]; exact IntWalk.i64_in _ (by have:=Qez ((n:Nat):Int) (i+1) (by omega) (by omega); omega)))) ?_
  refine sg 1 kj <| Qao <| hK8 _ _ <| Qai <| sg 1 kj <| Qab (.int .i64 ((i+1:Nat):Int)) 8 rfl kj (Qaf (u:=.int .i64 (IntKind.i64.wrap (((i:Nat):Int)+1))) kj (congrArg (Value.int .i64) (i64n _ _ (by omega) (by omega)))) <| sg 1 kj <| Qao ?_
  repeat (first | with_reducible refine goX1 ?_ | with_reducible refine goX2 ?_ | with_reducible refine goX3 ?_)
  exact Qax ((i+1),z1) ⟨kj,kj,kj,kj,trivial⟩ ⟨(show i+1≤8 by omega),(by rw [Qir _ i hlt6]; exact f12),y3,(Ext.low (Ext.tr xx1 e2) l3 (Rely.Ext.refl w).size)⟩ (by show 8-(i+1)<8-i; omega)
 ·skip
  have heq6:i=8:=by have:=of_decide_eq_false c7; omega
  refine wp_exit <| hK3 _ _ <| sgB kj <| wp_ret ?_
  repeat (first | with_reducible refine goR1 ?_ | with_reducible refine goR2 ?_)
  exact (show bodyPost _ _ _ .ret _ _ from ret1 (u) rfl (Qa0 kj) ⟨u,rfl,xx1,OwnN.base (Rely.Ext.refl w).size (by have h9:=hu; rw [heq6,List.take_of_length_le (by rw [QbT]; decide)] at h9; exact h9)⟩)
set_option maxRecDepth 100000 in
theorem Qgc (key nonce ctx mixed:List Int) (v v2 v3:Value) (B B2 B3:Nat) (w:World) (hkl:key.length=32) (hkb:Qaj key) (hnb:Qaj nonce) (hn:RdK .u8 B nonce v w) (hc:RdK .u8 B2 ctx v2 w) (hm:RdK .u8 B3 mixed v3 w) (h:nonce.length=12) (hcb:Qaj ctx) (hmb:Qaj mixed) (hcl:ctx.length≤1200000) (hml:mixed.length≤1200000) :
  Calls Tryd.prog 50 #[.agg (ints .u8 key),v,v2,v3] w (Ret w (.agg (ints .u8 (Qb7 key nonce ctx mixed)))):=by
 obtain ⟨a_n,c_n,rfl,-⟩:=id hn
 obtain ⟨a_c,c_c,rfl,-⟩:=id hc
 obtain ⟨a_m,c_m,rfl,-⟩:=id hm
 refine enter 61 [(0,.agg (ints .u8 (key))),(1,.slice a_n nonce.length c_n),(2,.slice a_c ctx.length c_c),(3,.slice a_m mixed.length c_m)] Tryd.func50 rfl rfl kj rfl <| sgC fun K1 hK1=>Qaq (ints .u8 (key)) 23 4 rfl kj kj fun g2 W1 l2 e1 r2_1=>?_
 have x1:=Ext.tr (Rely.Ext.refl w) e1
 have b2:=qT (Rely.Ext.refl w).size l2
 refine Qaq (ints .u8 (List.replicate 16 0)) 82 8 rfl kj kj fun g3 W2 l3 e2 r3_2=>?_
 have x2:=Ext.tr x1 e2
 refine sgN hK1 <| sgC fun K4 hK4=>Qab (.agg (ints .u8 (key))) 15 rfl kj (Qap 23 _ g2 23 _ _ (Qaa r2_1 e2) rfl kj kj (isz (n:=32) kj ((Qac _ _).trans hkl))) <| sg 1 kj <| Qa6 (.tuple #[.agg (ints .u8 (Qbb (QaO key nonce) (0))),.int .i64 0]) 62 #[.agg (ints .u8 (key)),.slice a_n nonce.length c_n,.int .i64 0] 17 rfl kj kj ((Qge key nonce _ _ 0 _ hkl (RdK.ext hn x2) h (by decide) (by decide) hkb hnb)) fun W3 e3=>?_
 have x3:=Ext.tr x2 e3
 refine sg 3 kj <| Qaq (ints .u8 (List.replicate 64 0)) 90 9 rfl kj kj fun g5 W4 l5 e4 r5_4=>Qal g5 _ (ints .u8 (Qbb (QaO key nonce) (0))) 90 r5_4 rfl kj (Qan 90 _ _ g5 90 _ _ r5_4 rfl kj kj (isz (n:=64) kj ((Qac _ _).trans (Qbk _ _))) (eqsz (n:=64) ((Qac _ _).trans (List.length_replicate (n:=64))) ((Qac _ _).trans (Qbk _ _))) (Qav _ _)) fun W5 p5 r5_5=>?_
 have x5:=Puts.ext p5 (Ext.tr x3 e4) (qT x3.size l5)
 refine sg 1 kj <| sgN hK4 <| sgC fun K6 hK6=>Qaq (ints .u8 (List.replicate 32 0)) 23 11 rfl kj kj fun g7 W6 l7 e6 r7_6=>sgN hK6 <| wp_seq_k fun K8 hK8=>sgB kj <| wp_block <| Qa5 (fun (s1:Nat)=>[(1,.slice a_n nonce.length c_n),(2,.slice a_c ctx.length c_c),(3,.slice a_m mixed.length c_m),(8,.pointer (some ⟨g3,0,none⟩)),(9,.pointer (some ⟨g5,0,none⟩)),(11,.pointer (some ⟨g7,0,none⟩)),(12,.int .i64 ((s1:Nat):Int))]) (fun (s1:Nat) W=>(s1≤32)∧(W.heap[g7]? = some (.cells (ints .u8 (Qby (otk key nonce) 32 s1)) 23))∧(Qas [g7] W6 W)∧(Ext w W)) (fun (s1:Nat)=>32-s1) 0 ⟨kj,kj,kj,kj,kj,kj,kj,trivial⟩ ⟨(Nat.zero_le _),(QaF r7_6 (QbG _ 32)),(Qas.refl [g7] W6),(Ext.tr x5 e6)⟩ fun s1 X1 V1 hI1=>?_
 obtain ⟨i,hs1⟩:∃ z,z=s1:=⟨_,rfl⟩
 subst hs1
 obtain ⟨hi,q7_1,kk1,xx1⟩:=hI1
 replace hi:i≤32:=hi
 replace q7_1:V1.heap[g7]? = some (.cells (ints .u8 (Qby (otk key nonce) 32 i)) 23):=q7_1
 replace kk1:Qas [g7] W6 V1:=kk1
 replace xx1:Ext w V1:=xx1
 have q7:=kk1
 refine wp_seq_k fun K10 hK10=>sgB kj <| Qay (t:=decide (((i:Nat):Int)<32)) kj (fun c12=>?_) (fun c12=>?_)
 ·skip
  have hlt21:i<32:=by have:=of_decide_eq_true c12; omega
  refine wp_skip <| hK10 _ _ <| wp_seq_k fun K13 hK13=>wp_block <| Qai <| sg 2 kj <| Qab (.pointer (some ⟨g5,i,none⟩)) 26 rfl kj (QaE _ _ _ .i64 (i) _ 64 5 rfl kj kj kj kj (by omega)) <| Qab (.int .u8 (nth (otk key nonce) i)) 27 rfl kj (Qah 5 _ g5 i 90 _ (.int .u8 (nth (otk key nonce) i)) _ (Qas.row q7 (Qaa r5_5 e6) (QaC (Qae r5_5 l7) QaS)) rfl kj ((QaM _ _ _ (Nat.lt_of_lt_of_eq (by omega) (Qbk _ _).symm)).trans (congrArg (fun z=>some (Value.int .u8 z)) (by unfold otk; exact (QdW _ _ _ hlt21).symm))) kj) ?_
  refine Qab (.pointer (some ⟨g7,i,none⟩)) 28 rfl kj (QaE _ _ _ .i64 (i) _ 32 5 rfl kj kj kj kj (by omega)) <| Qal g7 _ (ints .u8 ((Qby (otk key nonce) 32 i).set i (nth (otk key nonce) i))) 23 q7_1 rfl kj (Qa1 5 _ _ g7 i 23 _ _ q7_1 rfl kj kj kj (Nat.lt_of_lt_of_eq (by omega) (QbK _ 32 _ (Qeh _ _) hi).symm)) fun W8 p8 r7_8=>?_
  have x8:=Puts.ext p8 xx1 (qT x5.size l7)
  refine Qao <| hK13 _ _ <| Qai <| sg 1 kj <| Qab (.int .i64 ((i+1:Nat):Int)) 23 rfl kj (Qaf (u:=.int .i64 (IntKind.i64.wrap (((i:Nat):Int)+1))) kj (congrArg (Value.int .i64) (i64n _ _ (by omega) (by omega)))) <| sg 1 kj <| Qao ?_
  repeat (first | with_reducible refine goX1 ?_ | with_reducible refine goX2 ?_ | with_reducible refine goX3 ?_)
  exact Qax (i+1) ⟨kj,kj,kj,kj,kj,kj,kj,trivial⟩ ⟨(show i+1≤32 by omega),(QaF r7_8 (QbH _ 32 i (Qeh _ _) hlt21)),(Qas.puts q7 p8 (.inl (by simp))),x8⟩ (by show 32-(i+1)<32-i; omega)
 ·skip
  have heq21:i=32:=by have:=of_decide_eq_false c12; omega
  subst heq21
  have r7_7_14:V1.heap[g7]? = some (.cells (ints .u8 (otk key nonce)) 23):=QaF q7_1 (Qcd _ 32 (Qeh _ _))
  refine wp_exit <| hK8 _ _ <| sgC fun K15 hK15=>Qa7 (ints .u8 ([])) 5 0 29 rfl kj kj fun g16 W8 l16 e8 r16_8=>?_
  have x8:=Ext.tr xx1 e8
  have b16:=qT xx1.size l16
  refine sg 1 kj <| QaH (k:=.u8) (T:=5) (xs:=[]) (ys:=ctx) (V:=V1) 1 (.tmp 29) (.tmp 30) 33 rfl kj kj (by decide) 31 rfl kj kj kj (Qcr (xs:=[]) rfl l16 r16_8 (by decide)) (RdK.ext hc x8) (by show 0+_≤_; omega) (Rely.Ext.trans (Rely.Ext.refl V1) e8) fun z1 W9 f17 y9 l9=>?_
  refine sg 1 kj <| Qao ?_
  have ho_0:OwnN .u8 5 V1.heap.size ctx (z1) W9:=by have h9:=f17; rw [List.nil_append] at h9; exact h9
  refine hK15 _ _ <| wp_seq_k fun K19 hK19=>wp_block <| Qa5 (fun (s2:Nat×Value)=>[(2,.slice a_c ctx.length c_c),(3,.slice a_m mixed.length c_m),(8,.pointer (some ⟨g3,0,none⟩)),(11,.pointer (some ⟨g7,0,none⟩)),(13,s2.2)]) (fun (s2:Nat×Value) W=>(s2.1≤((16-ctx.length%16)%16))∧(OwnN .u8 5 V1.heap.size (ctx++List.replicate s2.1 0) s2.2 W)∧(Below V1.heap.size W9 W)∧(Ext w W)) (fun (s2:Nat×Value)=>((16-ctx.length%16)%16)-s2.1) (0,z1) ⟨kj,kj,kj,kj,kj,trivial⟩ ⟨(Nat.zero_le _),(by rw [List.replicate_zero,List.append_nil]; exact ho_0),(RowKit.Below.refl _ W9),(Ext.low x8 l9 xx1.size)⟩ fun s2 X2 V2 hI2=>?_
  obtain ⟨j35,u35⟩:=s2
  obtain ⟨hj35,hu35,kk2,xx2⟩:=hI2
  replace hj35:j35≤((16-ctx.length%16)%16):=hj35
  replace hu35:OwnN .u8 5 V1.heap.size (ctx++List.replicate j35 0) u35 V2:=hu35
  replace kk2:Below V1.heap.size W9 V2:=kk2
  replace xx2:Ext w V2:=xx2
  have l10:=kk2
  obtain ⟨aj35,cj35,hvj35,-⟩:=id (OwnN.rd hu35)
  subst hvj35
  have hlj35:(ctx++List.replicate j35 0).length=ctx.length+j35:=by rw [List.length_append,List.length_replicate]
  refine wp_seq_k fun K20 hK20=>sgC fun K21 hK21=>sg 2 kj <| Qab (.int .i64 ((((ctx.length+j35)%16:Nat):Int))) 34 rfl kj (Qaf (u:=.int .i64 (Int.tmod ((((ctx++List.replicate j35 0).length:Nat):Int)) (16))) kj (congrArg (Value.int .i64) (by rw [hlj35]; exact Qct _ 16))) ?_
  refine sg 1 kj <| sgN hK21 <| Qay (t:=((((ctx.length+j35)%16:Nat):Int) != 0)) kj (fun c22=>?_) (fun c22=>?_)
  ·skip
   have hne35:(ctx.length+j35)%16≠0:=by have h9:=bne_iff_ne.1 c22; omega
   have hmo35:=QhZ _ _ hj35 hne35
   refine wp_skip <| hK20 _ _ <| wp_block <| Qai <| sg 1 kj <| Qa7 (ints .u8 ([0])) 5 1 37 rfl kj kj fun g23 W11 l23 e11 r23_11=>?_
   have x11:=Ext.tr xx2 e11
   have b23:=qT xx2.size l23
   have y7_10:=(Ext.low y9 l10 (Rely.Ext.refl V1).size)
   refine QaH (k:=.u8) (T:=5) (xs:=ctx++List.replicate j35 0) (ys:=[0]) (V:=V1) 1 (.tmp 36) (.tmp 37) 33 rfl kj kj (by decide) 38 rfl kj kj kj (hu35.ext e11) (QaI (xs:=[0]) (n:=1) rfl r23_11 (Qau r23_11) (show 1≤maxLen from by decide)) (by rw [hlj35]; show _+1≤_; omega) (Rely.Ext.trans y7_10 e11) fun z2 W12 f25 y12 l12=>?_
   refine sg 1 kj <| Qao ?_
   repeat (first | with_reducible refine goX1 ?_ | with_reducible refine goX2 ?_ | with_reducible refine goX3 ?_)
   exact Qax ((j35+1),z2) ⟨kj,kj,kj,kj,kj,trivial⟩ ⟨hmo35,(by have h9:=f25; rw [List.append_assoc,QhT] at h9; exact h9),(RowKit.Below.trans (RowKit.Below.trans l10 (RowKit.Below.mono e11 y7_10.size)) l12),(Ext.low x11 l12 xx1.size)⟩ (by show ((16-ctx.length%16)%16)-(j35+1)<((16-ctx.length%16)%16)-j35; omega)
  ·skip
   have hen35:j35=((16-ctx.length%16)%16):=Qjv _ _ hj35 (by have h9:=bne_eq_false_iff_eq.1 c22; omega)
   obtain ⟨t1,et1⟩:∃ z:List Int,z=ctx++padV ctx:=⟨_,rfl⟩
   have ho_t1:OwnN .u8 5 V1.heap.size t1 (.slice aj35 ((ctx++List.replicate j35 0).length) cj35) V2:=by rw [et1]; have h9:=hu35; generalize (.slice aj35 ((ctx++List.replicate j35 0).length) cj35:Value)=gv at h9 ⊢; rw [hen35] at h9; exact h9
   have lt1:t1.length=ctx.length+(16-ctx.length%16)%16:=by rw [et1,List.length_append,QeY]
   refine wp_exit <| hK19 _ _ <| sgC fun K27 hK27=>sg 2 kj ?_
   have y7_10:=(Ext.low y9 l10 (Rely.Ext.refl V1).size)
   refine QaH (k:=.u8) (T:=5) (xs:=t1) (ys:=mixed) (V:=V1) 1 (.tmp 39) (.tmp 40) 33 rfl kj kj (by decide) 41 rfl kj kj kj ho_t1 (RdK.ext hm xx2) (by omega) y7_10 fun z3 W11 f28 y11 l11=>?_
   have x11:=Ext.low xx2 l11 xx1.size
   refine sg 1 kj <| Qao ?_
   obtain ⟨t2,et2⟩:∃ z:List Int,z=t1++mixed:=⟨_,rfl⟩
   have ho_t2:OwnN .u8 5 V1.heap.size t2 (z3) W11:=by rw [et2]; have h9:=f28; generalize (z3:Value)=gv at h9 ⊢; skip; exact h9
   have lt2:t2.length=t1.length+mixed.length:=by rw [et2,List.length_append]
   have hx2:t2.length%16=mixed.length%16:=by omega
   have lt2b:t2.length≤2450000:=by omega
   refine hK27 _ _ <| wp_seq_k fun K30 hK30=>wp_block <| Qa5 (fun (s3:Nat×Value)=>[(2,.slice a_c ctx.length c_c),(3,.slice a_m mixed.length c_m),(8,.pointer (some ⟨g3,0,none⟩)),(11,.pointer (some ⟨g7,0,none⟩)),(13,s3.2)]) (fun (s3:Nat×Value) W=>(s3.1≤((16-t2.length%16)%16))∧(OwnN .u8 5 V1.heap.size (t2++List.replicate s3.1 0) s3.2 W)∧(Below V1.heap.size W11 W)∧(Ext w W)) (fun (s3:Nat×Value)=>((16-t2.length%16)%16)-s3.1) (0,z3) ⟨kj,kj,kj,kj,kj,trivial⟩ ⟨(Nat.zero_le _),(by rw [List.replicate_zero,List.append_nil]; exact ho_t2),(RowKit.Below.refl _ W11),x11⟩ fun s3 X3 V3 hI3=>?_
   obtain ⟨j45,u45⟩:=s3
   obtain ⟨hj45,hu45,kk3,xx3⟩:=hI3
   replace hj45:j45≤((16-t2.length%16)%16):=hj45
   replace hu45:OwnN .u8 5 V1.heap.size (t2++List.replicate j45 0) u45 V3:=hu45
   replace kk3:Below V1.heap.size W11 V3:=kk3
   replace xx3:Ext w V3:=xx3
   have l12:=kk3
   obtain ⟨aj45,cj45,hvj45,-⟩:=id (OwnN.rd hu45)
   subst hvj45
   have hlj45:(t2++List.replicate j45 0).length=t2.length+j45:=by rw [List.length_append,List.length_replicate]
   refine wp_seq_k fun K31 hK31=>sgC fun K32 hK32=>sg 2 kj <| Qab (.int .i64 ((((t2.length+j45)%16:Nat):Int))) 44 rfl kj (Qaf (u:=.int .i64 (Int.tmod ((((t2++List.replicate j45 0).length:Nat):Int)) (16))) kj (congrArg (Value.int .i64) (by rw [hlj45]; exact Qct _ 16))) ?_
   refine sg 1 kj <| sgN hK32 <| Qay (t:=((((t2.length+j45)%16:Nat):Int) != 0)) kj (fun c33=>?_) (fun c33=>?_)
   ·skip
    have hne45:(t2.length+j45)%16≠0:=by have h9:=bne_iff_ne.1 c33; omega
    have hmo45:=QhZ _ _ hj45 hne45
    refine wp_skip <| hK31 _ _ <| wp_block <| Qai <| sg 1 kj <| Qa7 (ints .u8 ([0])) 5 1 47 rfl kj kj fun g34 W13 l34 e13 r34_13=>?_
    have x13:=Ext.tr xx3 e13
    have b34:=qT xx3.size l34
    have y7_12:=(Ext.low y11 l12 (Rely.Ext.refl V1).size)
    have y7_13:=(Rely.Ext.trans y7_12 e13)
    refine QaH (k:=.u8) (T:=5) (xs:=t2++List.replicate j45 0) (ys:=[0]) (V:=V1) 1 (.tmp 46) (.tmp 47) 33 rfl kj kj (by decide) 48 rfl kj kj kj (hu45.ext e13) (QaI (xs:=[0]) (n:=1) rfl r34_13 (Qau r34_13) (show 1≤maxLen from by decide)) (by rw [hlj45]; show _+1≤_; omega) y7_13 fun z4 W14 f36 y14 l14=>?_
    have x14:=Ext.low x13 l14 xx1.size
    refine sg 1 kj <| Qao ?_
    repeat (first | with_reducible refine goX1 ?_ | with_reducible refine goX2 ?_ | with_reducible refine goX3 ?_)
    exact Qax ((j45+1),z4) ⟨kj,kj,kj,kj,kj,trivial⟩ ⟨hmo45,(by have h9:=f36; rw [List.append_assoc,QhT] at h9; exact h9),(RowKit.Below.trans (RowKit.Below.trans l12 (RowKit.Below.mono e13 y7_12.size)) l14),x14⟩ (by show ((16-t2.length%16)%16)-(j45+1)<((16-t2.length%16)%16)-j45; omega)
   ·skip
    have hen45:j45=((16-t2.length%16)%16):=Qjv _ _ hj45 (by have h9:=bne_eq_false_iff_eq.1 c33; omega)
    obtain ⟨t3,et3⟩:∃ z:List Int,z=ctx++padV ctx++mixed++padV mixed:=⟨_,rfl⟩
    have ho_t3:OwnN .u8 5 V1.heap.size t3 (.slice aj45 ((t2++List.replicate j45 0).length) cj45) V3:=by rw [et3]; have h9:=hu45; generalize (.slice aj45 ((t2++List.replicate j45 0).length) cj45:Value)=gv at h9 ⊢; rw [hen45,et2,et1] at h9; rw [show (16-(ctx++padV ctx++mixed).length%16)%16=(16-mixed.length%16)%16 by rw [←et1,←et2,hx2]] at h9; exact h9
    have lt3:t3.length≤2500000:=by rw [et3,List.length_append,List.length_append,←et1,QeY,lt1]; omega
    refine wp_exit <| hK30 _ _ <| sgC fun K38 hK38=>sg 3 kj <| Qat (fun v W'=>(OwnN .u8 5 V3.heap.size (by8 ((ctx.length:Nat):Int))) v W'∧Ext V3 W') 63 #[.int .i64 ((ctx.length:Nat):Int)] 52 rfl kj kj ((Qlp (ctx.length) _ (by omega)).mono (by rintro e w' ⟨v,rfl,e1,hv⟩; exact ⟨v,rfl,hv,e1⟩)) fun vv39 W13 hh39=>?_
    obtain ⟨hv39,e13⟩:=hh39
    have x13:=Ext.tr xx3 e13
    obtain ⟨a52_,c52_,rfl,-⟩:=id (OwnN.rd hv39)
    have y7_12:=(Ext.low y11 l12 (Rely.Ext.refl V1).size)
    have y7_13:=(Rely.Ext.trans y7_12 e13)
    refine QaH (k:=.u8) (T:=5) (xs:=t3) (ys:=by8 ((ctx.length:Nat):Int)) (V:=V1) 1 (.tmp 49) (.tmp 52) 33 rfl kj kj (by decide) 53 rfl kj kj kj (ho_t3.ext e13) (OwnN.rd hv39) (by rw [QbT]; omega) y7_13 fun z5 W14 f41 y14 l14=>?_
    have x14:=Ext.low x13 l14 xx1.size
    refine sg 1 kj <| Qao ?_
    obtain ⟨t4,et4⟩:∃ z:List Int,z=t3++by8 ((ctx.length:Nat):Int):=⟨_,rfl⟩
    have ho_t4:OwnN .u8 5 V1.heap.size t4 (z5) W14:=by rw [et4]; have h9:=f41; generalize (z5:Value)=gv at h9 ⊢; skip; exact h9
    have lt4:t4.length=t3.length+8:=by rw [et4,List.length_append,QbT]
    refine hK38 _ _ <| wp_seq_k fun K43 hK43=>?_
    have r7_8:=(Qaa r7_7_14 e8)
    have hbW:V1.heap.size≤W14.heap.size:=y14.size
    obtain ⟨gz,cz,curz,hze,hz1,hz2,-,-,-,-⟩:=QdH ho_t4 (by omega)
    have hgz:=Qau hz2
    have hv4:OwnN .u8 5 V1.heap.size t4 (.slice (some ⟨gz,0,none⟩) t4.length cz) W14:=hze▸ho_t4
    have hn11:g7≠gz:=by have h1:=Qau r7_7_14; omega
    refine QhH (Qdh gz V1.heap.size t4.length (by8 ((mixed.length:Nat):Int))) (Qdh.refl _ _ _ _) (fun h k=>Qdh.trans h k) 6 [⟨none,[(11,none)]⟩,⟨none,[(13,none)]⟩,⟨none,[(3,none)]⟩,⟨none,[(56,some 2)]⟩,⟨none,[(57,some 3)]⟩,⟨none,[(55,some 1),(58,some 4)]⟩] kj kj fun F hF=>QfQ (Qdh.refl _ _ _ _) (.agg (ints .u8 (otk key nonce))) kj kj (fun W hR=>(Qap 23 _ g7 23 _ _ (hR.row (Qaa (Qbf l14 (Qaa (Qbf l12 (Qbf l11 (Qbf l10 (Qbf l9 r7_8 (Qau r7_7_14)) (Qau r7_7_14)) (Qau r7_7_14)) (Qau r7_7_14)) e13) (Qau r7_7_14)) (Qak _)) hn11) rfl kj kj (isz (n:=32) kj ((Qac _ _).trans (Qeh _ _))))) <| QfQ (Qdh.refl _ _ _ _) (z5) kj kj (fun W hR=>by kernel_rfl) <| QfQ (Qdh.refl _ _ _ _) (.slice a_m mixed.length c_m) kj kj (fun W hR=>by kernel_rfl) <| QfQ (Qdh.refl _ _ _ _) (.int .i64 ((mixed.length:Nat):Int)) kj kj (fun W hR=>by kernel_rfl) <| Qke (fun W=>Qdh.refl _ _ _ _ W) (fun e=>Qdh.ext e) (OwnN .u8 5 V1.heap.size (by8 ((mixed.length:Nat):Int))) (Qfm (fun i hi h=>absurd hi (by rw [QbT]; omega))) 63 (fun ρ W hR hh=>?_) ?_
    ·skip
     have e57:ρ 57=.int .i64 ((mixed.length:Nat):Int):=hh.1
     refine ⟨#[.int .i64 ((mixed.length:Nat):Int)],Eq.trans (b:=Result.ok (Next.enter 63 #[ρ 57]) W) kj (by rw [e57]),?_⟩
     exact (Qlp mixed.length W (by omega)).mono fun e W2 h=>by
      obtain ⟨u,h1,h2,h3⟩:=h
      exact ⟨u,h1,h2,h3.base (qT hbW (qT (Qak W14).size hR.once.size))⟩
    refine Qmx (OwnN .u8 5 V1.heap.size (t4++by8 ((mixed.length:Nat):Int))) (Qfm (fun i hi h=>by unfold nth; rw [List.getD_eq_getElem?_getD,List.getD_eq_getElem?_getD,List.getElem?_append_right h])) (fun ρ W hR hh=>?_) ?_
    ·skip
     have e55:ρ 55=.slice (some ⟨gz,0,none⟩) t4.length cz:=(show ρ 55=z5 from hh.1).trans hze
     have h58:OwnN .u8 5 V1.heap.size (by8 ((mixed.length:Nat):Int)) (ρ 58) W:=hh.2.1
     exact QjZ (ρ:=Rely.look ρ) (.tmp 55) (.tmp 58) 33 rfl kj kj e55 rfl (Qfm (fun i hi h=>absurd hi (by omega)) _ _ _ hR (hv4.ext (Qak _))) (OwnN.rd h58) (by rw [QbT]; omega) (qT hbW (qT (Qak W14).size hR.once.size))
    refine QbN (hF _ fun W15 hR=>?_)
    simp only [List.nil_append,List.cons_append,List.take_succ_cons,List.take_zero,List.drop_succ_cons,List.drop_zero,finE,up]
    intro z58 hz58 z59 hz59
    clear hF
    have l15:Below V1.heap.size W14 W15:=QiT (hR.once.below (qT hbW (Qak _).size)) hbW
    obtain ⟨t5,et5⟩:∃ z:List Int,z=QmW ctx mixed:=⟨_,rfl⟩
    have eq5:t4++by8 ((mixed.length:Nat):Int)=t5:=by rw [et5,et4,et3,List.append_assoc]; rfl
    have hz5:OwnN .u8 5 V1.heap.size t5 z59 W15:=eq5▸hz59
    obtain ⟨a59,c59,rfl,-⟩:=id (OwnN.rd hz5)
    have lt5:t5.length≤3000000:=by rw [←eq5,List.length_append,QbT]; omega
    have bt5:Qaj t5:=by rw [et5]; exact bytes_app (bytes_app (bytes_app (bytes_app hcb (QdT _)) hmb) (QdT _)) (bytes_app (QdM _) (QdM _))
    refine Qa6 (.agg (ints .u8 (Qb7 key nonce ctx mixed))) 64 #[.agg (ints .u8 (otk key nonce)),.slice a59 t5.length c59] 60 rfl kj kj ((by unfold Qb7; rw [←et5]; exact QmD (otk key nonce) t5 _ _ _ (Qeh _ _) (QgP _ _) bt5 (OwnN.rd hz5) lt5)) fun W16 e16=>?_
    have r3_3:=(Qaa r3_2 e3)
    have r3_5:=(Puts.row p5 (Qaa r3_3 e4) (Qae r3_3 l5))
    have r3_7:=(Qas.row q7 (Qaa r3_5 e6) (QaC (Qae r3_5 l7) QaS))
    have r3_16:=(Qaa (Qbf l15 (Qbf l14 (Qaa (Qbf l12 (Qbf l11 (Qbf l10 (Qbf l9 (Qaa r3_7 e8) (Qau r3_7)) (Qau r3_7)) (Qau r3_7)) (Qau r3_7)) e13) (Qau r3_7)) (Qau r3_7)) e16)
    refine Qal g3 _ (ints .u8 (Qb7 key nonce ctx mixed)) 82 r3_16 rfl kj (Qan 82 _ _ g3 82 _ _ r3_16 rfl kj kj (isz (n:=16) kj ((Qac _ _).trans (QaT _ _ _ _))) (eqsz (n:=16) ((Qac _ _).trans (List.length_replicate (n:=16))) ((Qac _ _).trans (QaT _ _ _ _))) (Qav _ _)) fun W17 p17 r3_17=>sgN hK43 <| wp_ret ?_
    repeat (first | with_reducible refine goR1 ?_ | with_reducible refine goR2 ?_)
    exact (show bodyPost _ _ _ .ret _ _ from ret1 (.agg (ints .u8 (Qb7 key nonce ctx mixed))) rfl (QaU g3 82 _ r3_17 kj kj (isz (n:=16) kj ((Qac _ _).trans (QaT _ _ _ _)))) ⟨rfl,(Puts.ext p17 (Ext.tr (Ext.low x14 l15 xx1.size) e16) (qT x1.size l3))⟩)
end Go.Proofs.YtophlgnnjjkkiaaDoor.Ae
end
section
namespace Go.Proofs.YtophlgnnjjkkiaaDoor.Ae
open Go Go.RowKit
open Rely Auto Own Sha
open Sha Cha
def Qdy (base : Nat) (xs:List Int):Value→World→Prop:=fun v W=>∃ u,v=.tuple #[u,.int .i64 0]∧OwnN .u8 5 base xs u W
theorem Qcy (base : Nat) (xs:List Int):QbB Ext (Qdy base xs):=fun _ _ _ hR ⟨u,e,h⟩=>⟨u,e,h.ext hR⟩
theorem QmH (n0 : Nat) (key nonce text fm:List Int) (v v2:Value) (B B2:Nat) (w:World) (hkl:key.length=32) (hkb:Qaj key) (hnb:Qaj nonce) (hn:RdK .u8 B nonce v w) (ht:RdK .u8 B2 text v2 w) (h:nonce.length=12) (hl:text.length≤2000000) (em:mixV (QaO key nonce) 1 text=fm) (hn0:n0≤w.heap.size) :
    Calls Tryd.prog 49 #[.agg (ints .u8 key),v,.int .i64 1,v2] w (Qb8 w (Qdy n0 fm)):=by
  subst em
  exact (QmG key nonce text v v2 B B2 1 w hkl hkb hnb hn ht h 4294967295 (by decide) (by decide) (by decide) (by omega) hl).mono fun e W' hg=>by
    obtain ⟨v',e1,e2,u,e3,e4⟩:=hg
    exact ⟨v',e1,e2,u,e3,e4.base hn0⟩
set_option maxRecDepth 100000 in
theorem Ql8 (key nonce ctx text:List Int) (v v2 v3:Value) (B B2 B3:Nat) (w:World) (hkl:key.length=32) (hkb:Qaj key) (hnb:Qaj nonce) (hn:RdK .u8 B nonce v w) (hc:RdK .u8 B2 ctx v2 w) (ht:RdK .u8 B3 text v3 w) (hcb:Qaj ctx) (h:nonce.length=12) (hcl:ctx.length≤1048576) (hxl:text.length≤1048576) :
    Calls Tryd.prog 35 #[.agg (ints .u8 key),v,v2,v3] w (Qb8 w (Qdy w.heap.size (QcC key nonce ctx text))):=by
  obtain ⟨a_n,c_n,rfl,-⟩:=id hn
  obtain ⟨a_c,c_c,rfl,-⟩:=id hc
  obtain ⟨a_t,c_t,rfl,-⟩:=id ht
  obtain ⟨fm,em⟩:∃ z:List Int,mixV (QaO key nonce) 1 text=z:=⟨_,rfl⟩
  have lfm:fm.length=text.length:=by rw [←em,QbZ]
  have hfb:Qaj fm:=by rw [←em]; exact QdY _ _ _
  refine enter 41 [(0,.agg (ints .u8 (key))),(1,.slice a_n nonce.length c_n),(2,.slice a_c ctx.length c_c),(3,.slice a_t text.length c_t)] Tryd.func35 rfl rfl kj rfl <| sgC fun K1 hK1=>Qaq (ints .u8 (key)) 23 4 rfl kj kj fun g2 W1 l2 e1 r2_1=>?_
  have x1:=Ext.tr (Rely.Ext.refl w) e1
  have b2:=qT (Rely.Ext.refl w).size l2
  refine sg 2 kj <| sgN hK1 <| wp_seq_k fun K3 hK3=>sgC fun K4 hK4=>sg 2 kj <| Qab (.bool false) 15 rfl kj (Qaf (u:=.bool ((((nonce.length:Nat):Int) != 12))) kj (congrArg Value.bool (by rw [h]; rfl))) ?_
  refine sg 3 kj <| Qab (.bool false) 19 rfl kj (Qaf (u:=.bool (decide (((ctx.length:Nat):Int)>1048576))) kj (congrArg Value.bool (decide_eq_false (by omega)))) <| sg 4 kj <| Qab (.bool false) 24 rfl kj (Qaf (u:=.bool (decide (((text.length:Nat):Int)>1048576))) kj (congrArg Value.bool (decide_eq_false (by omega)))) <| sg 1 kj <| sgN hK4 <| cond_false kj <| wp_skip <| hK3 _ _ <| sgC fun K5 hK5=>?_
  refine Qab (.agg (ints .u8 (key))) 27 rfl kj (Qap 23 _ g2 23 _ _ r2_1 rfl kj kj (isz (n:=32) kj ((Qac _ _).trans hkl))) <| sg 2 kj <| Qat (fun v W'=>(Qdy W1.heap.size fm) v W'∧Ext W1 W') 49 #[.agg (ints .u8 (key)),.slice a_n nonce.length c_n,.int .i64 1,.slice a_t text.length c_t] 30 rfl kj kj ((QmH W1.heap.size key nonce text fm _ _ _ _ _ hkl hkb hnb (RdK.ext hn x1) (RdK.ext ht x1) h (by omega) em (qR _)).mono (by rintro e w' ⟨v,rfl,e1,hv⟩; exact ⟨v,rfl,hv,e1⟩)) fun vv6 W2 hh6=>?_
  obtain ⟨hv6,e2⟩:=hh6
  have x2:=Ext.tr x1 e2
  obtain ⟨u30_,rfl,hu30_⟩:=hv6
  obtain ⟨a30_,c30_,rfl,-⟩:=id (OwnN.rd hu30_)
  refine sg 5 kj <| sgN hK5 <| sgC fun K7 hK7=>Qab (.agg (ints .u8 (key))) 33 rfl kj (Qap 23 _ g2 23 _ _ (Qaa r2_1 e2) rfl kj kj (isz (n:=32) kj ((Qac _ _).trans hkl))) <| sg 3 kj <| Qa6 (.agg (ints .u8 (Qb7 key nonce ctx fm))) 50 #[.agg (ints .u8 (key)),.slice a_n nonce.length c_n,.slice a_c ctx.length c_c,.slice a30_ ((fm).length) c30_] 37 rfl kj kj ((Qgc key nonce ctx fm _ _ _ _ _ _ _ hkl hkb hnb (RdK.ext hn x2) (RdK.ext hc x2) (OwnN.rd hu30_) h hcb hfb (by omega) (by omega))) fun W3 e3=>?_
  have x3:=Ext.tr x2 e3
  refine Qaq (ints .u8 (List.replicate 16 0)) 82 12 rfl kj kj fun g8 W4 l8 e4 r8_4=>Qal g8 _ (ints .u8 (Qb7 key nonce ctx fm)) 82 r8_4 rfl kj (Qan 82 _ _ g8 82 _ _ r8_4 rfl kj kj (isz (n:=16) kj ((Qac _ _).trans (QaT _ _ _ _))) (eqsz (n:=16) ((Qac _ _).trans (List.length_replicate (n:=16))) ((Qac _ _).trans (QaT _ _ _ _))) (Qav _ _)) fun W5 p5 r8_5=>sgN hK7 <| sgC fun K9 hK9=>sg 2 kj ?_
  have f10_3:=(hu30_.ext e3)
  have y1_3:=(Rely.Ext.trans (Rely.Ext.trans (Rely.Ext.refl W1) e2) e3)
  refine QaH (k:=.u8) (T:=5) (xs:=fm) (ys:=Qb7 key nonce ctx fm) (V:=W1) 1 (.tmp 38) (.tmp 39) 33 rfl kj kj (by decide) 40 rfl kj kj kj ((f10_3.ext e4).puts p5 (QfG f10_3 l8)) (QaI (xs:=Qb7 key nonce ctx fm) (n:=16) (QaT _ _ _ _) r8_5 (Qau r8_5) (show 16≤maxLen from by decide)) (by rw [QaT]; omega) (Puts.ext p5 (Rely.Ext.trans y1_3 e4) (qT y1_3.size l8)) fun zs W6 f13 y6 l6=>?_
  refine sg 2 kj <| sgN hK9 <| wp_ret ?_
  repeat (first | with_reducible refine goR1 ?_ | with_reducible refine goR2 ?_)
  exact (show bodyPost _ _ _ .ret _ _ from ret2 (zs) (.int .i64 0) rfl (Qa0 kj) (Qa0 kj) ⟨_,rfl,(Ext.low (Puts.ext p5 (Ext.tr x3 e4) (qT x3.size l8)) l6 x1.size),zs,rfl,by unfold QcC; rw [em]; exact OwnN.base x1.size f13⟩)
end Go.Proofs.YtophlgnnjjkkiaaDoor.Ae
end
section
namespace Go.Proofs.YtophlgnnjjkkiaaDoor.Ae
open Go Go.RowKit
open Rely Auto Own Sha
open Sha Cha
set_option maxRecDepth 100000 in
theorem Ql9 (key nonce ctx sl:List Int) (v v2 v3:Value) (B B2 B3:Nat) (w:World) (hkl:key.length=32) (hkb:Qaj key) (hnb:Qaj nonce) (hn:RdK .u8 B nonce v w) (hc:RdK .u8 B2 ctx v2 w) (ht:RdK .u8 B3 sl v3 w) (hcb:Qaj ctx) (htb:Qaj sl) (h:nonce.length=12) (hcl:ctx.length≤1048592) (hxl:sl.length≤1048592) (hsh:sl.length<16) :
    Calls Tryd.prog 38 #[.agg (ints .u8 key),v,v2,v3] w (Ret w (.tuple #[.slice none 0 0,.int .i64 2])):=by
  obtain ⟨a_n,c_n,rfl,-⟩:=id hn
  obtain ⟨a_c,c_c,rfl,-⟩:=id hc
  obtain ⟨a_t,c_t,rfl,-⟩:=id ht
  have ctk:sl.length≤c_t:=by
    obtain ⟨_,_,e,q2,_⟩:=id ht
    simp only [Value.slice.injEq] at e
    obtain ⟨-,-,rfl⟩:=e
    exact q2
  have htm:sl.length≤maxLen:=RdK.len ht
  have hlt_:(sl.take (sl.length-16)).length=sl.length-16:=by rw [List.length_take]; omega
  refine enter 56 [(0,.agg (ints .u8 (key))),(1,.slice a_n nonce.length c_n),(2,.slice a_c ctx.length c_c),(3,.slice a_t sl.length c_t)] Tryd.func38 rfl rfl kj rfl <| sgC fun K1 hK1=>Qaq (ints .u8 (key)) 23 4 rfl kj kj fun g2 W1 l2 e1 r2_1=>?_
  have b2:=qT (Rely.Ext.refl w).size l2
  refine sg 2 kj <| sgN hK1 <| wp_seq_k fun K3 hK3=>sgC fun K4 hK4=>sg 2 kj <| Qab (.bool false) 16 rfl kj (Qaf (u:=.bool ((((nonce.length:Nat):Int) != 12))) kj (congrArg Value.bool (by rw [h]; rfl))) ?_
  refine sg 3 kj <| Qab (.bool false) 20 rfl kj (Qaf (u:=.bool (decide (((ctx.length:Nat):Int)>1048592))) kj (congrArg Value.bool (decide_eq_false (by omega)))) <| sg 4 kj <| Qab (.bool false) 25 rfl kj (Qaf (u:=.bool (decide (((sl.length:Nat):Int)>1048592))) kj (congrArg Value.bool (decide_eq_false (by omega)))) <| sg 1 kj <| sgN hK4 <| cond_false kj <| wp_skip <| hK3 _ _ <| sgC fun K5 hK5=>?_
  refine sg 2 kj <| Qab (.int .i64 (((sl.length:Nat):Int)-16)) 29 rfl kj (Qaf (u:=.int .i64 (IntKind.i64.wrap (((sl.length:Nat):Int)-16))) kj (congrArg (Value.int .i64) (IntWalk.i64_in _ (by rw [maxLen] at htm; omega)))) ?_
  refine sg 1 kj <| sgN hK5 <| wp_seq_k fun K6 hK6=>sgC fun K7 hK7=>sg 1 kj <| Qab (.bool true) 31 rfl kj (Qaf (u:=.bool (decide ((((sl.length:Nat):Int)-16)<0))) kj (congrArg Value.bool (decide_eq_true (by omega)))) <| sgN hK7 <| cond_true kj <| sgB kj <| wp_ret ?_
  repeat (first | with_reducible refine goR1 ?_ | with_reducible refine goR2 ?_)
  exact (show bodyPost _ _ _ .ret _ _ from ret2 (.slice none 0 0) (.int .i64 2) rfl (Qa0 kj) (Qa0 kj) ⟨rfl,(Ext.tr (Rely.Ext.refl w) e1)⟩)
set_option maxRecDepth 100000 in
theorem QlA (key nonce ctx sl:List Int) (v v2 v3:Value) (B B2 B3:Nat) (w:World) (hkl:key.length=32) (hkb:Qaj key) (hnb:Qaj nonce) (hn:RdK .u8 B nonce v w) (hc:RdK .u8 B2 ctx v2 w) (ht:RdK .u8 B3 sl v3 w) (hcb:Qaj ctx) (htb:Qaj sl) (h:nonce.length=12) (hcl:ctx.length≤1048592) (hxl:sl.length≤1048592) (hsh:16≤sl.length) (hne:Qb7 key nonce ctx (sl.take (sl.length-16))≠sl.drop (sl.length-16)) :
    Calls Tryd.prog 38 #[.agg (ints .u8 key),v,v2,v3] w (Ret w (.tuple #[.slice none 0 0,.int .i64 2])):=by
  obtain ⟨a_n,c_n,rfl,-⟩:=id hn
  obtain ⟨a_c,c_c,rfl,-⟩:=id hc
  obtain ⟨a_t,c_t,rfl,-⟩:=id ht
  have ctk:sl.length≤c_t:=by
    obtain ⟨_,_,e,q2,_⟩:=id ht
    simp only [Value.slice.injEq] at e
    obtain ⟨-,-,rfl⟩:=e
    exact q2
  have htm:sl.length≤maxLen:=RdK.len ht
  have hlt_:(sl.take (sl.length-16)).length=sl.length-16:=by rw [List.length_take]; omega
  refine enter 56 [(0,.agg (ints .u8 (key))),(1,.slice a_n nonce.length c_n),(2,.slice a_c ctx.length c_c),(3,.slice a_t sl.length c_t)] Tryd.func38 rfl rfl kj rfl <| sgC fun K1 hK1=>Qaq (ints .u8 (key)) 23 4 rfl kj kj fun g2 W1 l2 e1 r2_1=>?_
  have x1:=Ext.tr (Rely.Ext.refl w) e1
  have b2:=qT (Rely.Ext.refl w).size l2
  refine sg 2 kj <| sgN hK1 <| wp_seq_k fun K3 hK3=>sgC fun K4 hK4=>sg 2 kj <| Qab (.bool false) 16 rfl kj (Qaf (u:=.bool ((((nonce.length:Nat):Int) != 12))) kj (congrArg Value.bool (by rw [h]; rfl))) ?_
  refine sg 3 kj <| Qab (.bool false) 20 rfl kj (Qaf (u:=.bool (decide (((ctx.length:Nat):Int)>1048592))) kj (congrArg Value.bool (decide_eq_false (by omega)))) <| sg 4 kj <| Qab (.bool false) 25 rfl kj (Qaf (u:=.bool (decide (((sl.length:Nat):Int)>1048592))) kj (congrArg Value.bool (decide_eq_false (by omega)))) <| sg 1 kj <| sgN hK4 <| cond_false kj <| wp_skip <| hK3 _ _ <| sgC fun K5 hK5=>?_
  refine sg 2 kj <| Qab (.int .i64 (((sl.length-16:Nat):Int))) 29 rfl kj (Qaf (u:=.int .i64 (IntKind.i64.wrap (((sl.length:Nat):Int)-16))) kj (congrArg (Value.int .i64) (Qdt _ hsh htm))) <| sg 1 kj <| sgN hK5 <| wp_seq_k fun K6 hK6=>sgC fun K7 hK7=>sg 1 kj <| Qab (.bool false) 31 rfl kj (Qaf (u:=.bool (decide (((sl.length-16:Nat):Int)<0))) kj (congrArg Value.bool (decide_eq_false (by omega)))) <| sgN hK7 <| cond_false kj ?_
  refine wp_skip <| hK6 _ _ <| wp_seq_k fun K8 hK8=>QaD 8 [⟨none,[(4,none)]⟩,⟨none,[(1,none)]⟩,⟨none,[(2,none)]⟩,⟨none,[(3,none)]⟩,⟨none,[(10,none)]⟩,⟨none,[(35,some 3),(36,some 4)]⟩,⟨none,[(32,some 0),(33,some 1),(34,some 2),(37,some 5)]⟩,⟨none,[]⟩] kj kj fun F hF=>QaR (Qag _) (.agg (ints .u8 (key))) kj kj (fun W hR=>(Qap 23 _ g2 23 _ _ (Qaa (Qaa r2_1 (Qak _)) hR) rfl kj kj (isz (n:=32) kj ((Qac _ _).trans hkl)))) <| Qar (Qag _) (.slice a_n nonce.length c_n) kj kj (fun W=>by kernel_rfl) <| Qar (Qag _) (.slice a_c ctx.length c_c) kj kj (fun W=>by kernel_rfl) <| Qar (Qag _) (.slice a_t sl.length c_t) kj kj (fun W=>by kernel_rfl) <| Qar (Qag _) (.int .i64 (((sl.length-16:Nat):Int))) kj kj (fun W=>by kernel_rfl) <| Qar (Qag _) (.slice a_t (sl.length-16) c_t) kj kj (fun W=>(Qcm (len:=sl.length) 33 _ _ (sl.length-16) 5 rfl kj kj kj .i64 kj (qT (Nat.sub_le _ _) ctk))) ?_
  refine QbS (Qag _) (.agg (ints .u8 (Qb7 key nonce ctx (sl.take (sl.length-16))))) 50 #[.agg (ints .u8 (key)),.slice a_n nonce.length c_n,.slice a_c ctx.length c_c,.slice a_t (sl.length-16) c_t] kj kj (fun W=>by kernel_rfl) (fun W hR=>(Qgc key nonce ctx (sl.take (sl.length-16)) _ _ _ _ _ _ W hkl hkb hnb (RdK.ext (RdK.ext hn x1) (Rely.Ext.trans (Qak _) hR)) (RdK.ext (RdK.ext hc x1) (Rely.Ext.trans (Qak _) hR)) (RdK.ext (Qcg (RdK.ext ht x1) (sl.length-16) (Nat.sub_le _ _)) (Rely.Ext.trans (Qak _) hR)) h hcb (Qa9 htb _) (by omega) (by omega))) <| Qhd (Qag _) (ints .u8 (List.replicate 16 0)) 82 (NewP.stable _ _ _) kj kj (fun W=>by kernel_rfl) <| QbN (hF _ fun W2 e2=>?_)
  simp only [List.nil_append,List.cons_append,List.take_succ_cons,List.take_zero,List.drop_succ_cons,List.drop_zero,finE,up]
  intro vv9 hv9
  clear hF
  obtain ⟨g9,rfl,l9,r9_2⟩:=hv9
  refine Qal g9 _ (ints .u8 (Qb7 key nonce ctx (sl.take (sl.length-16)))) 82 r9_2 rfl kj (Qan 82 _ _ g9 82 _ _ r9_2 rfl kj kj (isz (n:=16) kj ((Qac _ _).trans (QaT _ _ _ _))) (eqsz (n:=16) ((Qac _ _).trans (List.length_replicate (n:=16))) ((Qac _ _).trans (QaT _ _ _ _))) (Qav _ _)) fun W3 p3 r9_3=>?_
  have x3:=Puts.ext p3 (Ext.tr x1 e2) (qT x1.size l9)
  refine sgN hK8 <| wp_seq_k fun K10 hK10=>wp_seq_k fun K11 hK11=>QaD 6 [⟨none,[(11,none)]⟩,⟨none,[(39,some 0)]⟩,⟨none,[(3,none)]⟩,⟨none,[(10,none)]⟩,⟨none,[(41,some 2),(42,some 3)]⟩,⟨none,[(43,some 4)]⟩] kj kj fun F hF=>Qar (Qag _) (.slice (some ⟨g9,0,none⟩) 16 16) kj kj (fun W=>by kernel_rfl) <| QaR (Qag _) (.string (Qc5 (Qb7 key nonce ctx (sl.take (sl.length-16))))) kj kj (fun W hR=>(Qc1 _ _ rfl kj (Qb7 key nonce ctx (sl.take (sl.length-16))) (RdK.bytes (RdK.ext (QaI (xs:=Qb7 key nonce ctx (sl.take (sl.length-16))) (n:=16) (QaT _ _ _ _) r9_3 (Qau r9_3) (show 16≤maxLen from by decide)) (Rely.Ext.trans (Qak _) hR)) (Qcw _ _ _ _)))) <| Qar (Qag _) (.slice a_t sl.length c_t) kj kj (fun W=>by kernel_rfl) <| Qar (Qag _) (.int .i64 (((sl.length-16:Nat):Int))) kj kj (fun W=>by kernel_rfl) <| Qar (Qag _) (.slice (Qde a_t c_t (sl.length-16)) (sl.length-(sl.length-16)) (c_t-(sl.length-16))) kj kj (fun W=>(QcP 33 _ _ (sl.length-16) 5 rfl kj kj kj .i64 kj (Nat.sub_le _ _) ctk)) <| QaR (Qag _) (.string (Qc5 (sl.drop (sl.length-16)))) kj kj (fun W hR=>(Qc1 _ _ rfl kj (sl.drop (sl.length-16)) (RdK.bytes (RdK.ext (Qda (RdK.ext ht x3) (sl.length-16) (Nat.sub_le _ _)) (Rely.Ext.trans (Qak _) hR)) (QaQ htb _)))) ?_
  refine QbN (hF _ fun W4 e4=>?_)
  simp only [List.nil_append,List.cons_append,List.take_succ_cons,List.take_zero,List.drop_succ_cons,List.drop_zero,finE,up]
  clear hF
  refine Qab (.bool true) 45 rfl kj (Qaf (u:=.bool (!((Qc5 (Qb7 key nonce ctx (sl.take (sl.length-16)))).toList==(Qc5 (sl.drop (sl.length-16))).toList))) kj (congrArg Value.bool (by rw [Qfh (Qcw _ _ _ _) (QaQ htb _),decide_eq_false hne]; rfl))) ?_
  refine sgN hK11 <| cond_true kj <| sgB kj <| wp_ret ?_
  repeat (first | with_reducible refine goR1 ?_ | with_reducible refine goR2 ?_)
  exact (show bodyPost _ _ _ .ret _ _ from ret2 (.slice none 0 0) (.int .i64 2) rfl (Qa0 kj) (Qa0 kj) ⟨rfl,(Ext.tr x3 e4)⟩)
set_option maxRecDepth 100000 in
theorem QlB (key nonce ctx sl:List Int) (v v2 v3:Value) (B B2 B3:Nat) (w:World) (hkl:key.length=32) (hkb:Qaj key) (hnb:Qaj nonce) (hn:RdK .u8 B nonce v w) (hc:RdK .u8 B2 ctx v2 w) (ht:RdK .u8 B3 sl v3 w) (hcb:Qaj ctx) (htb:Qaj sl) (h:nonce.length=12) (hcl:ctx.length≤1048592) (hxl:sl.length≤1048592) (hsh:16≤sl.length) (hne:Qb7 key nonce ctx (sl.take (sl.length-16))=sl.drop (sl.length-16)) :
    Calls Tryd.prog 38 #[.agg (ints .u8 key),v,v2,v3] w (Qb8 w (Qdy w.heap.size (mixV (QaO key nonce) 1 (sl.take (sl.length-16))))):=by
  obtain ⟨a_n,c_n,rfl,-⟩:=id hn
  obtain ⟨a_c,c_c,rfl,-⟩:=id hc
  obtain ⟨a_t,c_t,rfl,-⟩:=id ht
  have ctk:sl.length≤c_t:=by
    obtain ⟨_,_,e,q2,_⟩:=id ht
    simp only [Value.slice.injEq] at e
    obtain ⟨-,-,rfl⟩:=e
    exact q2
  have htm:sl.length≤maxLen:=RdK.len ht
  have hlt_:(sl.take (sl.length-16)).length=sl.length-16:=by rw [List.length_take]; omega
  obtain ⟨fm,em⟩:∃ z:List Int,mixV (QaO key nonce) 1 (sl.take (sl.length-16))=z:=⟨_,rfl⟩
  refine enter 56 [(0,.agg (ints .u8 (key))),(1,.slice a_n nonce.length c_n),(2,.slice a_c ctx.length c_c),(3,.slice a_t sl.length c_t)] Tryd.func38 rfl rfl kj rfl <| sgC fun K1 hK1=>Qaq (ints .u8 (key)) 23 4 rfl kj kj fun g2 W1 l2 e1 r2_1=>?_
  have x1:=Ext.tr (Rely.Ext.refl w) e1
  have b2:=qT (Rely.Ext.refl w).size l2
  refine sg 2 kj <| sgN hK1 <| wp_seq_k fun K3 hK3=>sgC fun K4 hK4=>sg 2 kj <| Qab (.bool false) 16 rfl kj (Qaf (u:=.bool ((((nonce.length:Nat):Int) != 12))) kj (congrArg Value.bool (by rw [h]; rfl))) ?_
  refine sg 3 kj <| Qab (.bool false) 20 rfl kj (Qaf (u:=.bool (decide (((ctx.length:Nat):Int)>1048592))) kj (congrArg Value.bool (decide_eq_false (by omega)))) <| sg 4 kj <| Qab (.bool false) 25 rfl kj (Qaf (u:=.bool (decide (((sl.length:Nat):Int)>1048592))) kj (congrArg Value.bool (decide_eq_false (by omega)))) <| sg 1 kj <| sgN hK4 <| cond_false kj <| wp_skip <| hK3 _ _ <| sgC fun K5 hK5=>?_
  refine sg 2 kj <| Qab (.int .i64 (((sl.length-16:Nat):Int))) 29 rfl kj (Qaf (u:=.int .i64 (IntKind.i64.wrap (((sl.length:Nat):Int)-16))) kj (congrArg (Value.int .i64) (Qdt _ hsh htm))) <| sg 1 kj <| sgN hK5 <| wp_seq_k fun K6 hK6=>sgC fun K7 hK7=>sg 1 kj <| Qab (.bool false) 31 rfl kj (Qaf (u:=.bool (decide (((sl.length-16:Nat):Int)<0))) kj (congrArg Value.bool (decide_eq_false (by omega)))) <| sgN hK7 <| cond_false kj ?_
  refine wp_skip <| hK6 _ _ <| wp_seq_k fun K8 hK8=>QaD 8 [⟨none,[(4,none)]⟩,⟨none,[(1,none)]⟩,⟨none,[(2,none)]⟩,⟨none,[(3,none)]⟩,⟨none,[(10,none)]⟩,⟨none,[(35,some 3),(36,some 4)]⟩,⟨none,[(32,some 0),(33,some 1),(34,some 2),(37,some 5)]⟩,⟨none,[]⟩] kj kj fun F hF=>QaR (Qag _) (.agg (ints .u8 (key))) kj kj (fun W hR=>(Qap 23 _ g2 23 _ _ (Qaa (Qaa r2_1 (Qak _)) hR) rfl kj kj (isz (n:=32) kj ((Qac _ _).trans hkl)))) <| Qar (Qag _) (.slice a_n nonce.length c_n) kj kj (fun W=>by kernel_rfl) <| Qar (Qag _) (.slice a_c ctx.length c_c) kj kj (fun W=>by kernel_rfl) <| Qar (Qag _) (.slice a_t sl.length c_t) kj kj (fun W=>by kernel_rfl) <| Qar (Qag _) (.int .i64 (((sl.length-16:Nat):Int))) kj kj (fun W=>by kernel_rfl) <| Qar (Qag _) (.slice a_t (sl.length-16) c_t) kj kj (fun W=>(Qcm (len:=sl.length) 33 _ _ (sl.length-16) 5 rfl kj kj kj .i64 kj (qT (Nat.sub_le _ _) ctk))) ?_
  refine QbS (Qag _) (.agg (ints .u8 (Qb7 key nonce ctx (sl.take (sl.length-16))))) 50 #[.agg (ints .u8 (key)),.slice a_n nonce.length c_n,.slice a_c ctx.length c_c,.slice a_t (sl.length-16) c_t] kj kj (fun W=>by kernel_rfl) (fun W hR=>(Qgc key nonce ctx (sl.take (sl.length-16)) _ _ _ _ _ _ W hkl hkb hnb (RdK.ext (RdK.ext hn x1) (Rely.Ext.trans (Qak _) hR)) (RdK.ext (RdK.ext hc x1) (Rely.Ext.trans (Qak _) hR)) (RdK.ext (Qcg (RdK.ext ht x1) (sl.length-16) (Nat.sub_le _ _)) (Rely.Ext.trans (Qak _) hR)) h hcb (Qa9 htb _) (by omega) (by omega))) <| Qhd (Qag _) (ints .u8 (List.replicate 16 0)) 82 (NewP.stable _ _ _) kj kj (fun W=>by kernel_rfl) <| QbN (hF _ fun W2 e2=>?_)
  simp only [List.nil_append,List.cons_append,List.take_succ_cons,List.take_zero,List.drop_succ_cons,List.drop_zero,finE,up]
  intro vv9 hv9
  clear hF
  obtain ⟨g9,rfl,l9,r9_2⟩:=hv9
  refine Qal g9 _ (ints .u8 (Qb7 key nonce ctx (sl.take (sl.length-16)))) 82 r9_2 rfl kj (Qan 82 _ _ g9 82 _ _ r9_2 rfl kj kj (isz (n:=16) kj ((Qac _ _).trans (QaT _ _ _ _))) (eqsz (n:=16) ((Qac _ _).trans (List.length_replicate (n:=16))) ((Qac _ _).trans (QaT _ _ _ _))) (Qav _ _)) fun W3 p3 r9_3=>?_
  have x3:=Puts.ext p3 (Ext.tr x1 e2) (qT x1.size l9)
  refine sgN hK8 <| wp_seq_k fun K10 hK10=>wp_seq_k fun K11 hK11=>QaD 6 [⟨none,[(11,none)]⟩,⟨none,[(39,some 0)]⟩,⟨none,[(3,none)]⟩,⟨none,[(10,none)]⟩,⟨none,[(41,some 2),(42,some 3)]⟩,⟨none,[(43,some 4)]⟩] kj kj fun F hF=>Qar (Qag _) (.slice (some ⟨g9,0,none⟩) 16 16) kj kj (fun W=>by kernel_rfl) <| QaR (Qag _) (.string (Qc5 (Qb7 key nonce ctx (sl.take (sl.length-16))))) kj kj (fun W hR=>(Qc1 _ _ rfl kj (Qb7 key nonce ctx (sl.take (sl.length-16))) (RdK.bytes (RdK.ext (QaI (xs:=Qb7 key nonce ctx (sl.take (sl.length-16))) (n:=16) (QaT _ _ _ _) r9_3 (Qau r9_3) (show 16≤maxLen from by decide)) (Rely.Ext.trans (Qak _) hR)) (Qcw _ _ _ _)))) <| Qar (Qag _) (.slice a_t sl.length c_t) kj kj (fun W=>by kernel_rfl) <| Qar (Qag _) (.int .i64 (((sl.length-16:Nat):Int))) kj kj (fun W=>by kernel_rfl) <| Qar (Qag _) (.slice (Qde a_t c_t (sl.length-16)) (sl.length-(sl.length-16)) (c_t-(sl.length-16))) kj kj (fun W=>(QcP 33 _ _ (sl.length-16) 5 rfl kj kj kj .i64 kj (Nat.sub_le _ _) ctk)) <| QaR (Qag _) (.string (Qc5 (sl.drop (sl.length-16)))) kj kj (fun W hR=>(Qc1 _ _ rfl kj (sl.drop (sl.length-16)) (RdK.bytes (RdK.ext (Qda (RdK.ext ht x3) (sl.length-16) (Nat.sub_le _ _)) (Rely.Ext.trans (Qak _) hR)) (QaQ htb _)))) ?_
  refine QbN (hF _ fun W4 e4=>?_)
  simp only [List.nil_append,List.cons_append,List.take_succ_cons,List.take_zero,List.drop_succ_cons,List.drop_zero,finE,up]
  clear hF
  have x4:=Ext.tr x3 e4
  refine Qab (.bool false) 45 rfl kj (Qaf (u:=.bool (!((Qc5 (Qb7 key nonce ctx (sl.take (sl.length-16)))).toList==(Qc5 (sl.drop (sl.length-16))).toList))) kj (congrArg Value.bool (by rw [Qfh (Qcw _ _ _ _) (QaQ htb _),decide_eq_true hne]; rfl))) ?_
  refine sgN hK11 <| cond_false kj <| wp_skip <| hK10 _ _ <| wp_seq_k fun K12 hK12=>QaD 10 [⟨none,[(4,none)]⟩,⟨none,[(1,none)]⟩,⟨none,[(3,none)]⟩,⟨none,[(10,none)]⟩,⟨none,[(49,some 2),(50,some 3)]⟩,⟨none,[(47,some 0),(48,some 1),(51,some 4)]⟩,⟨none,[(52,some 5)]⟩,⟨none,[(46,some 6)]⟩,⟨none,[(46,some 6)]⟩,⟨none,[(53,some 7)]⟩] kj kj fun F hF=>QaR (Qag _) (.agg (ints .u8 (key))) kj kj (fun W hR=>(Qap 23 _ g2 23 _ _ (Qaa (Qaa (Qaa (Puts.row p3 (Qaa r2_1 e2) (Qae r2_1 l9)) e4) (Qak _)) hR) rfl kj kj (isz (n:=32) kj ((Qac _ _).trans hkl)))) <| Qar (Qag _) (.slice a_n nonce.length c_n) kj kj (fun W=>by kernel_rfl) <| Qar (Qag _) (.slice a_t sl.length c_t) kj kj (fun W=>by kernel_rfl) <| Qar (Qag _) (.int .i64 (((sl.length-16:Nat):Int))) kj kj (fun W=>by kernel_rfl) ?_
  refine Qar (Qag _) (.slice a_t (sl.length-16) c_t) kj kj (fun W=>(Qcm (len:=sl.length) 33 _ _ (sl.length-16) 5 rfl kj kj kj .i64 kj (qT (Nat.sub_le _ _) ctk))) <| Qcv (Qag _) (Qdy W4.heap.size fm) (Qcy _ _) 49 #[.agg (ints .u8 (key)),.slice a_n nonce.length c_n,.int .i64 1,.slice a_t (sl.length-16) c_t] kj kj (fun W=>by kernel_rfl) (fun W hR=>(QmH W4.heap.size key nonce (sl.take (sl.length-16)) fm _ _ _ _ W hkl hkb hnb (RdK.ext (RdK.ext hn x4) (Rely.Ext.trans (Qak _) hR)) (RdK.ext (Qcg (RdK.ext ht x4) (sl.length-16) (Nat.sub_le _ _)) (Rely.Ext.trans (Qak _) hR)) h (by omega) em (Rely.Ext.trans (Qak _) hR).size)) <| Qbr (Qag _) (Qdy W4.heap.size fm) (Qcy _ _) (fun ρ W hR hh=>⟨ρ 52,W,by kernel_rfl,Rely.Ext.refl _,(show (Qdy W4.heap.size fm) (ρ 52) W from hh.1)⟩) <| Qbr (Qag _) (OwnN .u8 5 W4.heap.size fm) (OwnN.stable _ _ _ _) (fun ρ W hR hh=>?_) ?_
  · obtain ⟨u,e,h⟩:=(show (Qdy W4.heap.size fm) (ρ 46) W from hh.1)
    exact ⟨_,W,QaW (.tmp 46) 0 #[u,.int .i64 0] _ rfl e rfl,Rely.Ext.refl _,h⟩
  refine Qbr (Qag _) (fun v W=>v=.int .i64 0) (fun _ _ _ _ h=>h) (fun ρ W hR hh=>?_) ?_
  · obtain ⟨u,e,h⟩:=(show (Qdy W4.heap.size fm) (ρ 46) W from hh.1)
    exact ⟨_,W,QaW (.tmp 46) 1 #[u,.int .i64 0] _ rfl e rfl,Rely.Ext.refl _,rfl⟩
  refine Qbr (Qag _) (OwnN .u8 5 W4.heap.size fm) (OwnN.stable _ _ _ _) (fun ρ W hR hh=>⟨ρ 53,W,by kernel_rfl,Rely.Ext.refl _,(show (OwnN .u8 5 W4.heap.size fm) (ρ 53) W from hh.1)⟩) <| QbN (hF _ fun W5 e5=>?_)
  simp only [List.nil_append,List.cons_append,List.take_succ_cons,List.take_zero,List.drop_succ_cons,List.drop_zero,finE,up]
  intro vv13 hv13 vv14 hv14 vv15 hv15 vv16 hv16 vv17 hv17
  clear hF
  subst hv16
  refine sg 1 kj <| sgN hK12 <| sgB kj <| wp_ret ?_
  repeat (first | with_reducible refine goR1 ?_ | with_reducible refine goR2 ?_)
  exact (show bodyPost _ _ _ .ret _ _ from ret2 (vv17) (.int .i64 0) rfl (Qa0 kj) (Qa0 kj) ⟨_,rfl,(Ext.tr x4 e5),_,rfl,by rw [em]; exact OwnN.base x4.size hv17⟩)
end Go.Proofs.YtophlgnnjjkkiaaDoor.Ae
end
section
namespace Go.Proofs.YtophlgnnjjkkiaaDoor.Ci
open Go Go.RowKit
open Rely Auto Own Sha Sha
open Cha
open Ae hiding run_storeQ bytes_app
open Ll hiding run_storeQ
theorem QdX (n : Nat):Qaj (nonV n):=bytes_app (fun x hx=>by simp only [List.mem_cons,List.not_mem_nil,or_false] at hx; rcases hx with rfl | rfl | rfl | rfl <;> decide) (QdM _)
theorem QgC {P : Program} {fn:Func} {N:Nat} {L:Env} {w:World} {r s t:ResultVar} {u v x:Value} (hr:fn.results=#[r,s,t]) (h:QcG P w N L r u) (k:QcG P w N L s v) (l:QcG P w N L t x):(results fn (Qa4 [] N L).tmps).run P w=.ok (.tuple #[u,v,x]) w:=by
  rw [Qdn,hr]
  simp [Qcc h,Qcc k,Qcc l,Sem.run_bind]
theorem ret3 {P : Program} {fn:Func} {R:Ending→World→Prop} {N:Nat} {L:Env} {w:World} {r s t:ResultVar} (u v x:Value) (hr:fn.results=#[r,s,t]) (h:QcG P w N L r u) (k:QcG P w N L s v) (l:QcG P w N L t x) (z:R (.returned (.tuple #[u,v,x])) w):bodyPost P fn R .ret (Qa4 [] N L) w:=bodyPost_ret (QgC hr h k l) rfl z
theorem Ql2 (n : Nat) (w:World) (hn:n≤5000000000):Calls Tryd.prog 36 #[.int .i64 ((n:Nat):Int)] w (Qb8 w (OwnN .u8 5 w.heap.size (nonV n))):=by
 refine enter 22 [(0,.int .i64 ((n:Nat):Int))] Tryd.func36 rfl rfl kj rfl <| sgB kj <| sgC fun K2 hK2=>Qa7 (ints .u8 ([0,0,0,0])) 5 4 6 rfl kj kj fun g3 W1 l3 e1 r3_1=>?_
 have b3:=qT (Rely.Ext.refl w).size l3
 refine sg 1 kj <| sgN hK2 <| sgC fun K4 hK4=>sg 1 kj <| Qab (.int .u64 (((n:Nat):Int)/p256 0)) 8 rfl kj (Qaf (u:=.int .u64 (IntKind.u64.wrap ((n:Nat):Int))) kj (congrArg (Value.int .u64) (by rw [QfD,Int.ediv_one]; exact u64n n (by omega)))) ?_
 refine sg 1 kj <| sgN hK4 <| wp_seq_k fun K5 hK5=>sgB kj <| wp_block <| Qa5 (fun (s1:Nat×Value)=>[(0,.int .i64 ((n:Nat):Int)),(3,s1.2),(4,.int .u64 (((n:Nat):Int)/p256 s1.1)),(5,.int .i64 ((s1.1:Nat):Int))]) (fun (s1:Nat×Value) W=>(s1.1≤8)∧(OwnN .u8 5 w.heap.size ([0,0,0,0]++(by8 ((n:Nat):Int)).take s1.1) s1.2 W)∧(Below w.heap.size W1 W)∧(Ext w W)) (fun (s1:Nat×Value)=>8-s1.1) (0,.slice (some ⟨g3,0,none⟩) 4 4) ⟨kj,kj,kj,kj,trivial⟩ ⟨(Nat.zero_le _),(by rw [List.take_zero,List.append_nil]; exact (Qcr (xs:=[0,0,0,0]) rfl l3 r3_1 (by decide))),(RowKit.Below.refl _ W1),(Ext.tr (Rely.Ext.refl w) e1)⟩ fun s1 X1 V1 hI1=>?_
 obtain ⟨i,u⟩:=s1
 obtain ⟨hi,hu,kk1,xx1⟩:=hI1
 replace hi:i≤8:=hi
 replace hu:OwnN .u8 5 w.heap.size ([0,0,0,0]++(by8 ((n:Nat):Int)).take i) u V1:=hu
 replace kk1:Below w.heap.size W1 V1:=kk1
 replace xx1:Ext w V1:=xx1
 have l2:=kk1
 refine wp_seq_k fun K7 hK7=>sgB kj <| Qay (t:=decide (((i:Nat):Int)<8)) kj (fun c9=>?_) (fun c9=>?_)
 ·skip
  have hlt10:i<8:=by have:=of_decide_eq_true c9; omega
  have hrg:=Qez ((n:Nat):Int) i (by omega) (by omega)
  refine wp_skip <| hK7 _ _ <| wp_seq_k fun K10 hK10=>wp_block <| sgC fun K11 hK11=>sg 2 kj <| Qab (.int .u64 (((n:Nat):Int)/p256 i%256)) 15 rfl kj (Qaf (u:=.int .u64 (Int.tmod ((((n:Nat):Int)/p256 i)) (256))) kj (congrArg (Value.int .u64) (show Int.tmod (((n:Nat):Int)/p256 i) 256=((n:Nat):Int)/p256 i%256 from Int.tmod_eq_emod_of_nonneg hrg.1))) <| Qab (.int .u8 (nth (by8 ((n:Nat):Int)) i)) 16 rfl kj (Qaf (u:=.int .u8 (IntKind.u8.wrap (((n:Nat):Int)/p256 i%256))) kj (congrArg (Value.int .u8) (Qis _ i hlt10))) <| Qa7 (ints .u8 ([(nth (by8 ((n:Nat):Int)) i)])) 5 1 17 rfl kj kj fun g12 W3 l12 e3 r12_3=>?_
  have b12:=qT xx1.size l12
  have y0_2:=(Ext.low (Rely.Ext.trans (Rely.Ext.refl w) e1) l2 (Rely.Ext.refl w).size)
  refine QaH (k:=.u8) (T:=5) (xs:=[0,0,0,0]++(by8 ((n:Nat):Int)).take i) (ys:=[(nth (by8 ((n:Nat):Int)) i)]) (V:=w) 1 (.tmp 13) (.tmp 17) 33 rfl kj kj (by decide) 18 rfl kj kj kj (hu.ext e3) (QaI (xs:=[(nth (by8 ((n:Nat):Int)) i)]) (n:=1) rfl r12_3 (Qau r12_3) (show 1≤maxLen from by decide)) (by rw [List.length_append,List.length_take,QbT]; show 4+_+1≤_; omega) (Rely.Ext.trans y0_2 e3) fun z1 W4 f14 y4 l4=>?_
  refine sg 1 kj <| sgN hK11 <| Qai <| sg 1 kj <| Qab (.int .u64 (((n:Nat):Int)/p256 (i+1))) 20 rfl kj (Qaf (u:=.int .u64 (IntKind.u64.wrap (Int.tdiv ((((n:Nat):Int)/p256 i)) (256)))) kj (congrArg (Value.int .u64) (by rw [show Int.tdiv (((n:Nat):Int)/p256 i) 256=((n:Nat):Int)/p256 i/256 from Int.tdiv_eq_ediv_of_nonneg hrg.1,QjW]; have h7:=Qez ((n:Nat):Int) (i+1) (by omega) (by omega); rw [IntKind.wrap_u64]; omega))) ?_
  refine sg 1 kj <| Qao <| hK10 _ _ <| Qai <| sg 1 kj <| Qab (.int .i64 ((i+1:Nat):Int)) 12 rfl kj (Qaf (u:=.int .i64 (IntKind.i64.wrap (((i:Nat):Int)+1))) kj (congrArg (Value.int .i64) (i64n _ _ (by omega) (by omega)))) <| sg 1 kj <| Qao ?_
  repeat (first | with_reducible refine goX1 ?_ | with_reducible refine goX2 ?_ | with_reducible refine goX3 ?_)
  exact Qax ((i+1),z1) ⟨kj,kj,kj,kj,trivial⟩ ⟨(show i+1≤8 by omega),(by rw [Qir _ i hlt10,←List.append_assoc]; exact f14),(RowKit.Below.trans (RowKit.Below.trans l2 (RowKit.Below.mono e3 y0_2.size)) l4),(Ext.low (Ext.tr xx1 e3) l4 (Rely.Ext.refl w).size)⟩ (by show 8-(i+1)<8-i; omega)
 ·skip
  have heq10:i=8:=by have:=of_decide_eq_false c9; omega
  refine wp_exit <| hK5 _ _ <| sgB kj <| wp_ret ?_
  repeat (first | with_reducible refine goR1 ?_ | with_reducible refine goR2 ?_)
  exact (show bodyPost _ _ _ .ret _ _ from ret1 (u) rfl (Qa0 kj) ⟨u,rfl,xx1,OwnN.base (qR _) (by have h9:=hu; rw [heq10,List.take_of_length_le (by rw [QbT]; decide)] at h9; exact h9)⟩)
theorem Qhr (n0 n:Nat) (w:World) (hn:n≤5000000000) (h0:n0≤w.heap.size):Calls Tryd.prog 36 #[.int .i64 ((n:Nat):Int)] w (Qb8 w (OwnN .u8 5 n0 (nonV n))) :=
  (Ql2 n w hn).mono fun e W' hg=>by
    obtain ⟨v',e1,e2,e3⟩:=hg
    exact ⟨v',e1,e2,e3.base h0⟩
set_option maxRecDepth 100000 in
theorem QlC (key chain hash:List Int) (num:Nat) (ctx text:List Int) (v2 v3:Value) (B2 B3:Nat) (w:World) (hkl:key.length=32) (hcl:chain.length=32) (hhl:hash.length=32) (hkb:Qaj key) (hxb:Qaj ctx) (hxl:ctx.length≤1048576) (hx:RdK .u8 B2 ctx v2 w) (ht:RdK .u8 B3 text v3 w) (hn:num=4294967295) :
    Calls Tryd.prog 13 #[.agg (cat [ints .u8 (chain),ints .u8 (hash),#[.bool true],ints .u8 (key),#[.int .i64 ((num:Nat):Int)]]),v2,v3] w (Qb8 w (fun v W=>∃ u,v=.tuple #[u,.agg (cat [ints .u8 (chain),ints .u8 (hash),#[.bool true],ints .u8 (key),#[.int .i64 ((num:Nat):Int)]]),.int .i64 8]∧OwnN .u8 5 w.heap.size ([]) u W)):=by
  obtain ⟨a_c,c_c,rfl,-⟩:=id hx
  obtain ⟨a_t,c_t,rfl,-⟩:=id ht
  refine enter 42 [(0,.agg (cat [ints .u8 (chain),ints .u8 (hash),#[.bool true],ints .u8 (key),#[.int .i64 ((num:Nat):Int)]])),(1,.slice a_c ctx.length c_c),(2,.slice a_t text.length c_t)] Tryd.func13 rfl rfl kj rfl <| sgC fun K1 hK1=>Qaq (cat [ints .u8 (chain),ints .u8 (hash),#[.bool true],ints .u8 (key),#[.int .i64 ((num:Nat):Int)]]) 31 3 rfl kj kj fun g2 W1 l2 e1 r2_1=>?_
  have x1:=Ext.tr (Rely.Ext.refl w) e1
  have b2:=qT (Rely.Ext.refl w).size l2
  refine sg 1 kj <| Qaq (cat [ints .u8 (List.replicate 32 0),ints .u8 (List.replicate 32 0),#[.bool false],ints .u8 (List.replicate 32 0),#[.int .i64 0]]) 31 7 rfl kj kj fun g3 W2 l3 e2 r3_2=>sg 1 kj <| sgN hK1 <| wp_seq_k fun K4 hK4=>sgC fun K5 hK5=>sg 1 kj ?_
  have r2_2:=(Qaa r2_1 e2)
  refine Qab (.bool true) 12 rfl kj (Qah 4 _ g2 64 31 _ (.bool true) _ r2_2 rfl kj (Qa3 [ints .u8 (chain),ints .u8 (hash)] [#[.bool true]] [ints .u8 (key),#[.int .i64 ((num:Nat):Int)]] 64 (by rw [Qad,Qad]; simp only [qS,cat,((Qac _ _).trans hcl),((Qac _ _).trans hhl)]; rfl) 0 _ rfl) kj) ?_
  refine sg 1 kj <| sgN hK5 <| cond_false kj <| wp_skip <| hK4 _ _ <| wp_seq_k fun K6 hK6=>sgC fun K7 hK7=>sg 1 kj <| Qab (.int .i64 ((num:Nat):Int)) 19 rfl kj (Qah 3 _ g2 97 31 _ (.int .i64 ((num:Nat):Int)) _ r2_2 rfl kj (Qa3 [ints .u8 (chain),ints .u8 (hash),#[.bool true],ints .u8 (key)] [#[.int .i64 ((num:Nat):Int)]] [] 97 (by rw [Qad,Qad,Qad,Qad]; simp only [qS,cat,((Qac _ _).trans hcl),((Qac _ _).trans hhl),((Qac _ _).trans hkl)]; rfl) 0 _ rfl) kj) ?_
  refine Qab (.bool true) 20 rfl kj (Qaf (u:=.bool (decide (((num:Nat):Int)≥4294967295))) kj (congrArg Value.bool (decide_eq_true (by omega)))) <| sgN hK7 <| cond_true kj <| wp_seq_k fun K8 hK8=>Qb2 (fun W=>True) [⟨none,[(3,none)]⟩,⟨none,[]⟩,⟨none,[(7,none),(21,some 0)]⟩,⟨none,[]⟩] [] [3] kj kj kj (fun W hR=>trivial) fun F hF=>Qch (.agg (cat [ints .u8 (chain),ints .u8 (hash),#[.bool true],ints .u8 (key),#[.int .i64 ((num:Nat):Int)]])) kj kj kj rfl (fun W hR=>(Qap 31 _ g2 31 _ _ (Qaa (Qaa r2_2 (Qak _)) hR) rfl kj kj (isz (n:=98) kj (by rw [Qad,Qad,Qad,Qad,Qad]; simp only [qS,cat,((Qac _ _).trans hcl),((Qac _ _).trans hhl),((Qac _ _).trans hkl)]; rfl)))) ?_
  refine QaY (.slice none 0 0) kj kj rfl (fun W=>by kernel_rfl) <| Qcf rfl <| QaY (.int .i64 8) kj kj rfl (fun W=>by kernel_rfl) <| QeS (hF _ kj fun W3 e3=>?_)
  simp only [List.nil_append,List.cons_append,fins,up]
  clear hF
  have r3_3:=(Qaa r3_2 e3)
  refine QbO _ g3 _ (cat [ints .u8 (chain),ints .u8 (hash),#[.bool true],ints .u8 (key),#[.int .i64 ((num:Nat):Int)]]) 31 r3_3 rfl (Qan 31 _ _ g3 31 _ _ r3_3 rfl kj kj (isz (n:=98) kj (by rw [Qad,Qad,Qad,Qad,Qad]; simp only [qS,cat,((Qac _ _).trans hcl),((Qac _ _).trans hhl),((Qac _ _).trans hkl)]; rfl)) (eqsz (n:=98) (by rw [Qad,Qad,Qad,Qad,Qad]; simp only [qS,cat,((Qac _ _).trans (List.length_replicate (n:=32)))]; rfl) (by rw [Qad,Qad,Qad,Qad,Qad]; simp only [qS,cat,((Qac _ _).trans hcl),((Qac _ _).trans hhl),((Qac _ _).trans hkl)]; rfl)) (Qcl _ (by intro a ha; simp only [List.mem_cons,List.not_mem_nil,or_false] at ha; rcases ha with rfl | rfl | rfl | rfl | rfl; exact (Qav _ _); exact (Qav _ _); exact (QaZ _ rfl); exact (Qav _ _); exact (QaZ _ rfl)))) (fun W hp=>trivial) fun W4 p4 r3_4=>?_
  refine Qd8 <| hK8 _ _ <| wp_ret ?_
  repeat (first | with_reducible refine goR1 ?_ | with_reducible refine goR2 ?_)
  exact (show bodyPost _ _ _ .ret _ _ from ret3 (.slice none 0 0) (.agg (cat [ints .u8 (chain),ints .u8 (hash),#[.bool true],ints .u8 (key),#[.int .i64 ((num:Nat):Int)]])) (.int .i64 8) rfl (Qa0 kj) (QaU g3 31 _ r3_4 kj kj (isz (n:=98) kj (by rw [Qad,Qad,Qad,Qad,Qad]; simp only [qS,cat,((Qac _ _).trans hcl),((Qac _ _).trans hhl),((Qac _ _).trans hkl)]; rfl))) (Qa0 kj) ⟨_,rfl,(Puts.ext p4 (Ext.tr (Ext.tr x1 e2) e3) (qT x1.size l3)),_,rfl,Qbz .u8 5 _ _⟩)
set_option maxRecDepth 100000 in
theorem QlD (key chain hash:List Int) (num:Nat) (ctx text:List Int) (v2 v3:Value) (B2 B3:Nat) (w:World) (hkl:key.length=32) (hcl:chain.length=32) (hhl:hash.length=32) (hkb:Qaj key) (hxb:Qaj ctx) (hxl:ctx.length≤1048576) (hx:RdK .u8 B2 ctx v2 w) (ht:RdK .u8 B3 text v3 w) (hn:num<4294967295) (fs:List Int) (es:QcC key (nonV num) ctx text=fs) (htl:text.length≤1048576) :
  Calls Tryd.prog 13 #[.agg (cat [ints .u8 (chain),ints .u8 (hash),#[.bool true],ints .u8 (key),#[.int .i64 ((num:Nat):Int)]]),v2,v3] w (Qb8 w (fun v W=>∃ u,v=.tuple #[u,.agg (cat [ints .u8 (chain),ints .u8 (hash),#[.bool true],ints .u8 (key),#[.int .i64 ((num+1:Nat):Int)]]),.int .i64 0]∧OwnN .u8 5 w.heap.size (fs) u W)):=by
 obtain ⟨a_c,c_c,rfl,-⟩:=id hx
 obtain ⟨a_t,c_t,rfl,-⟩:=id ht
 refine enter 42 [(0,.agg (cat [ints .u8 (chain),ints .u8 (hash),#[.bool true],ints .u8 (key),#[.int .i64 ((num:Nat):Int)]])),(1,.slice a_c ctx.length c_c),(2,.slice a_t text.length c_t)] Tryd.func13 rfl rfl kj rfl <| sgC fun K1 hK1=>Qaq (cat [ints .u8 (chain),ints .u8 (hash),#[.bool true],ints .u8 (key),#[.int .i64 ((num:Nat):Int)]]) 31 3 rfl kj kj fun g2 W1 l2 e1 r2_1=>?_
 have x1:=Ext.tr (Rely.Ext.refl w) e1
 refine sg 1 kj <| Qaq (cat [ints .u8 (List.replicate 32 0),ints .u8 (List.replicate 32 0),#[.bool false],ints .u8 (List.replicate 32 0),#[.int .i64 0]]) 31 7 rfl kj kj fun g3 W2 l3 e2 r3_2=>?_
 have x2:=Ext.tr x1 e2
 refine sg 1 kj <| sgN hK1 <| wp_seq_k fun K4 hK4=>sgC fun K5 hK5=>sg 1 kj ?_
 have r2_2:=(Qaa r2_1 e2)
 refine Qab (.bool true) 12 rfl kj (Qah 4 _ g2 64 31 _ (.bool true) _ r2_2 rfl kj (Qa3 [ints .u8 (chain),ints .u8 (hash)] [#[.bool true]] [ints .u8 (key),#[.int .i64 ((num:Nat):Int)]] 64 (by rw [Qad,Qad]; simp only [qS,cat,((Qac _ _).trans hcl),((Qac _ _).trans hhl)]; rfl) 0 _ rfl) kj) ?_
 refine sg 1 kj <| sgN hK5 <| cond_false kj <| wp_skip <| hK4 _ _ <| wp_seq_k fun K6 hK6=>sgC fun K7 hK7=>sg 1 kj <| Qab (.int .i64 ((num:Nat):Int)) 19 rfl kj (Qah 3 _ g2 97 31 _ (.int .i64 ((num:Nat):Int)) _ r2_2 rfl kj (Qa3 [ints .u8 (chain),ints .u8 (hash),#[.bool true],ints .u8 (key)] [#[.int .i64 ((num:Nat):Int)]] [] 97 (by rw [Qad,Qad,Qad,Qad]; simp only [qS,cat,((Qac _ _).trans hcl),((Qac _ _).trans hhl),((Qac _ _).trans hkl)]; rfl) 0 _ rfl) kj) ?_
 refine Qab (.bool false) 20 rfl kj (Qaf (u:=.bool (decide (((num:Nat):Int)≥4294967295))) kj (congrArg Value.bool (decide_eq_false (by omega)))) <| sgN hK7 <| cond_false kj <| wp_skip <| hK6 _ _ <| wp_seq_k fun K8 hK8=>QaD 12 [⟨none,[(3,none)]⟩,⟨none,[(23,some 0)]⟩,⟨none,[(3,none)]⟩,⟨none,[(25,some 2)]⟩,⟨none,[(26,some 3)]⟩,⟨none,[(1,none)]⟩,⟨none,[(2,none)]⟩,⟨none,[(24,some 1),(27,some 4),(28,some 5),(29,some 6)]⟩,⟨none,[(30,some 7)]⟩,⟨none,[(22,some 8)]⟩,⟨none,[(22,some 8)]⟩,⟨none,[(31,some 9)]⟩] kj kj fun F hF=>Qar (Qag _) (.pointer (some ⟨g2,65,none⟩)) kj kj (fun W=>by kernel_rfl) <| QaR (Qag _) (.agg (ints .u8 (key))) kj kj (fun W hR=>(QaL 23 _ g2 65 31 _ _ _ (Qaa (Qaa r2_2 (Qak _)) hR) rfl kj (Qa3 [ints .u8 (chain),ints .u8 (hash),#[.bool true]] [ints .u8 (key)] [#[.int .i64 ((num:Nat):Int)]] 65 (by rw [Qad,Qad,Qad]; simp only [qS,cat,((Qac _ _).trans hcl),((Qac _ _).trans hhl)]; rfl)) kj (isz (n:=32) kj ((Qac _ _).trans hkl)))) ?_
 refine Qar (Qag _) (.pointer (some ⟨g2,97,none⟩)) kj kj (fun W=>by kernel_rfl) <| QaR (Qag _) (.int .i64 ((num:Nat):Int)) kj kj (fun W hR=>(Qah 3 _ g2 97 31 _ (.int .i64 ((num:Nat):Int)) _ (Qaa (Qaa r2_2 (Qak _)) hR) rfl kj (Qa3 [ints .u8 (chain),ints .u8 (hash),#[.bool true],ints .u8 (key)] [#[.int .i64 ((num:Nat):Int)]] [] 97 (by rw [Qad,Qad,Qad,Qad]; simp only [qS,cat,((Qac _ _).trans hcl),((Qac _ _).trans hhl),((Qac _ _).trans hkl)]; rfl) 0 _ rfl) kj)) ?_
 refine Qcv (Qag _) (OwnN .u8 5 W2.heap.size (nonV num)) (OwnN.stable _ _ _ _) 36 #[.int .i64 ((num:Nat):Int)] kj kj (fun W=>by kernel_rfl) (fun W hR=>(Qhr W2.heap.size num _ (by omega) (Rely.Ext.trans (Qak _) hR).size)) <| Qar (Qag _) (.slice a_c ctx.length c_c) kj kj (fun W=>by kernel_rfl) <| Qar (Qag _) (.slice a_t text.length c_t) kj kj (fun W=>by kernel_rfl) <| Qdc (Qag _) (Qdy W2.heap.size fs) (Qcy _ _) 35 (fun ρ W hR hX=>?_) ?_
 ·skip
  have e24_:ρ 24=.agg (ints .u8 (key)):=hX.1
  have q27_:(OwnN .u8 5 W2.heap.size (nonV num)) (ρ 27) W:=hX.2.1
  obtain ⟨ar27,cr27,e27_,-⟩:=id (OwnN.rd q27_)
  have rd27_:=OwnN.rd q27_
  rw [e27_] at rd27_
  have e28_:ρ 28=.slice a_c ctx.length c_c:=hX.2.2.1
  have e29_:ρ 29=.slice a_t text.length c_t:=hX.2.2.2.1
  refine ⟨#[.agg (ints .u8 (key)),.slice ar27 ((nonV num).length) cr27,.slice a_c ctx.length c_c,.slice a_t text.length c_t],Eq.trans (b:=Result.ok (Next.enter 35 #[ρ 24,ρ 27,ρ 28,ρ 29]) W) kj (by rw [e24_,e27_,e28_,e29_]),?_⟩
  exact ((Ql8 key (nonV num) ctx text _ _ _ _ _ _ W hkl hkb (QdX _) rd27_ (RdK.ext (RdK.ext hx x2) (Rely.Ext.trans (Qak _) hR)) (RdK.ext (RdK.ext ht x2) (Rely.Ext.trans (Qak _) hR)) hxb (QcB _) hxl htl).mono fun e W2 hg=>by obtain ⟨v2,e1,e2,u,e3,e4⟩:=hg; rw [es] at e4; exact ⟨v2,e1,e2,u,e3,e4.base (Rely.Ext.trans (Qak _) hR).size⟩)
 refine Qbr (Qag _) (Qdy W2.heap.size fs) (Qcy _ _) (fun ρ W hR hh=>⟨ρ 30,W,by kernel_rfl,Rely.Ext.refl _,(show (Qdy W2.heap.size fs) (ρ 30) W from hh.1)⟩) <| Qbr (Qag _) (OwnN .u8 5 W2.heap.size fs) (OwnN.stable _ _ _ _) (fun ρ W hR hh=>?_) ?_
 ·obtain ⟨u,e,h⟩:=(show (Qdy W2.heap.size fs) (ρ 22) W from hh.1)
  exact ⟨_,W,QaW (.tmp 22) 0 #[u,.int .i64 0] _ rfl e rfl,Rely.Ext.refl _,h⟩
 refine Qbr (Qag _) (fun v W=>v=.int .i64 0) (fun _ _ _ _ h=>h) (fun ρ W hR hh=>?_) ?_
 ·obtain ⟨u,e,h⟩:=(show (Qdy W2.heap.size fs) (ρ 22) W from hh.1)
  exact ⟨_,W,QaW (.tmp 22) 1 #[u,.int .i64 0] _ rfl e rfl,Rely.Ext.refl _,rfl⟩
 refine Qbr (Qag _) (OwnN .u8 5 W2.heap.size fs) (OwnN.stable _ _ _ _) (fun ρ W hR hh=>⟨ρ 31,W,by kernel_rfl,Rely.Ext.refl _,(show (OwnN .u8 5 W2.heap.size fs) (ρ 31) W from hh.1)⟩) <| QbN (hF _ fun W3 e3=>?_)
 simp only [List.nil_append,List.cons_append,List.take_succ_cons,List.take_zero,List.drop_succ_cons,List.drop_zero,finE,up]
 intro vv9 hv9 vv10 hv10 vv11 hv11 vv12 hv12 vv13 hv13 vv14 hv14
 clear hF
 obtain ⟨a15_,c15_,rfl,-⟩:=id (OwnN.rd hv9)
 obtain ⟨a16_,c16_,rfl,-⟩:=id (OwnN.rd hv12)
 subst hv13
 obtain ⟨a17_,c17_,rfl,-⟩:=id (OwnN.rd hv14)
 refine sg 1 kj <| sgN hK8 <| wp_seq_k fun K18 hK18=>sgB kj <| cond_true kj <| Qai <| sg 1 kj ?_
 have r2_3:=(Qaa r2_2 e3)
 refine Qab (.int .i64 ((num:Nat):Int)) 36 rfl kj (Qah 3 _ g2 97 31 _ (.int .i64 ((num:Nat):Int)) _ r2_3 rfl kj (Qa3 [ints .u8 (chain),ints .u8 (hash),#[.bool true],ints .u8 (key)] [#[.int .i64 ((num:Nat):Int)]] [] 97 (by rw [Qad,Qad,Qad,Qad]; simp only [qS,cat,((Qac _ _).trans hcl),((Qac _ _).trans hhl),((Qac _ _).trans hkl)]; rfl) 0 _ rfl) kj) ?_
 refine Qab (.int .i64 (((num+1:Nat):Int))) 37 rfl kj (Qaf (u:=.int .i64 (IntKind.i64.wrap (((num:Nat):Int)+1))) kj (congrArg (Value.int .i64) (by rw [show ((num:Nat):Int)+1=((num+1:Nat):Int) by omega]; exact IntWalk.i64_in _ (by omega)))) ?_
 refine sg 1 kj <| Qal g2 _ (cat [ints .u8 (chain),ints .u8 (hash),#[.bool true],ints .u8 (key),#[.int .i64 (((num+1:Nat):Int))]]) 31 r2_3 rfl kj (run_storeQ 3 _ _ g2 97 31 [ints .u8 (chain),ints .u8 (hash),#[.bool true],ints .u8 (key)] [] _ (.int .i64 (((num+1:Nat):Int))) r2_3 rfl kj kj kj (by rw [Qad,Qad,Qad,Qad]; simp only [qS,cat,((Qac _ _).trans hcl),((Qac _ _).trans hhl),((Qac _ _).trans hkl)]; rfl) rfl rfl) fun W4 p4 r2_4=>?_
 refine Qao <| hK18 _ _ <| wp_seq_k fun K20 hK20=>Qb2 (fun W=>True) [⟨none,[(9,none)]⟩,⟨none,[(3,none)]⟩,⟨none,[(10,none)]⟩,⟨none,[(39,some 0)]⟩,⟨none,[(7,none),(40,some 1)]⟩,⟨none,[(41,some 2)]⟩] [] [2,5] kj kj kj (fun W hR=>trivial) fun F hF=>QaY (.slice a17_ ((fs).length) c17_) kj kj rfl (fun W=>by kernel_rfl) <| Qch (.agg (cat [ints .u8 (chain),ints .u8 (hash),#[.bool true],ints .u8 (key),#[.int .i64 (((num+1:Nat):Int))]])) kj kj kj rfl (fun W hR=>(Qap 31 _ g2 31 _ _ (Qaa (Qaa r2_4 (Qak _)) hR) rfl kj kj (isz (n:=98) kj (by rw [Qad,Qad,Qad,Qad,Qad]; simp only [qS,cat,((Qac _ _).trans hcl),((Qac _ _).trans hhl),((Qac _ _).trans hkl)]; rfl)))) ?_
 refine QaY (.int .i64 0) kj kj rfl (fun W=>by kernel_rfl) <| QaY (.slice a17_ ((fs).length) c17_) kj kj rfl (fun W=>by kernel_rfl) <| Qcf rfl <| QaY (.int .i64 0) kj kj rfl (fun W=>by kernel_rfl) <| QeS (hF _ kj fun W5 e5=>?_)
 simp only [List.nil_append,List.cons_append,fins,up]
 clear hF
 have r3_5:=(Qaa (Puts.row p4 (Qaa r3_2 e3) (Qa2 r2_1 l3)) e5)
 refine QbO _ g3 _ (cat [ints .u8 (chain),ints .u8 (hash),#[.bool true],ints .u8 (key),#[.int .i64 (((num+1:Nat):Int))]]) 31 r3_5 rfl (Qan 31 _ _ g3 31 _ _ r3_5 rfl kj kj (isz (n:=98) kj (by rw [Qad,Qad,Qad,Qad,Qad]; simp only [qS,cat,((Qac _ _).trans hcl),((Qac _ _).trans hhl),((Qac _ _).trans hkl)]; rfl)) (eqsz (n:=98) (by rw [Qad,Qad,Qad,Qad,Qad]; simp only [qS,cat,((Qac _ _).trans (List.length_replicate (n:=32)))]; rfl) (by rw [Qad,Qad,Qad,Qad,Qad]; simp only [qS,cat,((Qac _ _).trans hcl),((Qac _ _).trans hhl),((Qac _ _).trans hkl)]; rfl)) (Qcl _ (by intro a ha; simp only [List.mem_cons,List.not_mem_nil,or_false] at ha; rcases ha with rfl | rfl | rfl | rfl | rfl; exact (Qav _ _); exact (Qav _ _); exact (QaZ _ rfl); exact (Qav _ _); exact (QaZ _ rfl)))) (fun W hp=>trivial) fun W6 p6 r3_6=>?_
 refine Qd8 <| hK20 _ _ <| wp_ret ?_
 repeat (first | with_reducible refine goR1 ?_ | with_reducible refine goR2 ?_)
 exact (show bodyPost _ _ _ .ret _ _ from ret3 (.slice a17_ ((fs).length) c17_) (.agg (cat [ints .u8 (chain),ints .u8 (hash),#[.bool true],ints .u8 (key),#[.int .i64 (((num+1:Nat):Int))]])) (.int .i64 0) rfl (Qa0 kj) (QaU g3 31 _ r3_6 kj kj (isz (n:=98) kj (by rw [Qad,Qad,Qad,Qad,Qad]; simp only [qS,cat,((Qac _ _).trans hcl),((Qac _ _).trans hhl),((Qac _ _).trans hkl)]; rfl))) (Qa0 kj) ⟨_,rfl,(Puts.ext p6 (Ext.tr (Puts.ext p4 (Ext.tr x2 e3) (qT (Rely.Ext.refl w).size l2)) e5) (qT x1.size l3)),_,rfl,OwnN.base (qT (qT (qR _) e1.size) e2.size) (((hv14.puts p4 (Qbe hv14 (Qau r2_2))).ext e5).puts p6 (Qbe hv14 (Qau r3_2)))⟩)
set_option maxRecDepth 100000 in
theorem Ql6 (key chain hash:List Int) (num:Nat) (ctx sl:List Int) (v2 v3:Value) (B2 B3:Nat) (w:World) (hkl:key.length=32) (hcl:chain.length=32) (hhl:hash.length=32) (hkb:Qaj key) (hxb:Qaj ctx) (hxl:ctx.length≤1048576) (hx:RdK .u8 B2 ctx v2 w) (ht:RdK .u8 B3 sl v3 w) (hn:num=4294967295) :
    Calls Tryd.prog 15 #[.agg (cat [ints .u8 (chain),ints .u8 (hash),#[.bool true],ints .u8 (key),#[.int .i64 ((num:Nat):Int)]]),v2,v3] w (Qb8 w (fun v W=>∃ u,v=.tuple #[u,.agg (cat [ints .u8 (chain),ints .u8 (hash),#[.bool true],ints .u8 (key),#[.int .i64 ((num:Nat):Int)]]),.int .i64 8]∧OwnN .u8 5 w.heap.size ([]) u W)):=by
  obtain ⟨a_c,c_c,rfl,-⟩:=id hx
  obtain ⟨a_t,c_t,rfl,-⟩:=id ht
  refine enter 42 [(0,.agg (cat [ints .u8 (chain),ints .u8 (hash),#[.bool true],ints .u8 (key),#[.int .i64 ((num:Nat):Int)]])),(1,.slice a_c ctx.length c_c),(2,.slice a_t sl.length c_t)] Tryd.func15 rfl rfl kj rfl <| sgC fun K1 hK1=>Qaq (cat [ints .u8 (chain),ints .u8 (hash),#[.bool true],ints .u8 (key),#[.int .i64 ((num:Nat):Int)]]) 31 3 rfl kj kj fun g2 W1 l2 e1 r2_1=>?_
  have x1:=Ext.tr (Rely.Ext.refl w) e1
  have b2:=qT (Rely.Ext.refl w).size l2
  refine sg 1 kj <| Qaq (cat [ints .u8 (List.replicate 32 0),ints .u8 (List.replicate 32 0),#[.bool false],ints .u8 (List.replicate 32 0),#[.int .i64 0]]) 31 7 rfl kj kj fun g3 W2 l3 e2 r3_2=>sg 1 kj <| sgN hK1 <| wp_seq_k fun K4 hK4=>sgC fun K5 hK5=>sg 1 kj ?_
  have r2_2:=(Qaa r2_1 e2)
  refine Qab (.bool true) 12 rfl kj (Qah 4 _ g2 64 31 _ (.bool true) _ r2_2 rfl kj (Qa3 [ints .u8 (chain),ints .u8 (hash)] [#[.bool true]] [ints .u8 (key),#[.int .i64 ((num:Nat):Int)]] 64 (by rw [Qad,Qad]; simp only [qS,cat,((Qac _ _).trans hcl),((Qac _ _).trans hhl)]; rfl) 0 _ rfl) kj) ?_
  refine sg 1 kj <| sgN hK5 <| cond_false kj <| wp_skip <| hK4 _ _ <| wp_seq_k fun K6 hK6=>sgC fun K7 hK7=>sg 1 kj <| Qab (.int .i64 ((num:Nat):Int)) 19 rfl kj (Qah 3 _ g2 97 31 _ (.int .i64 ((num:Nat):Int)) _ r2_2 rfl kj (Qa3 [ints .u8 (chain),ints .u8 (hash),#[.bool true],ints .u8 (key)] [#[.int .i64 ((num:Nat):Int)]] [] 97 (by rw [Qad,Qad,Qad,Qad]; simp only [qS,cat,((Qac _ _).trans hcl),((Qac _ _).trans hhl),((Qac _ _).trans hkl)]; rfl) 0 _ rfl) kj) ?_
  refine Qab (.bool true) 20 rfl kj (Qaf (u:=.bool (decide (((num:Nat):Int)≥4294967295))) kj (congrArg Value.bool (decide_eq_true (by omega)))) <| sgN hK7 <| cond_true kj <| wp_seq_k fun K8 hK8=>Qb2 (fun W=>True) [⟨none,[(3,none)]⟩,⟨none,[]⟩,⟨none,[(7,none),(21,some 0)]⟩,⟨none,[]⟩] [] [3] kj kj kj (fun W hR=>trivial) fun F hF=>Qch (.agg (cat [ints .u8 (chain),ints .u8 (hash),#[.bool true],ints .u8 (key),#[.int .i64 ((num:Nat):Int)]])) kj kj kj rfl (fun W hR=>(Qap 31 _ g2 31 _ _ (Qaa (Qaa r2_2 (Qak _)) hR) rfl kj kj (isz (n:=98) kj (by rw [Qad,Qad,Qad,Qad,Qad]; simp only [qS,cat,((Qac _ _).trans hcl),((Qac _ _).trans hhl),((Qac _ _).trans hkl)]; rfl)))) ?_
  refine QaY (.slice none 0 0) kj kj rfl (fun W=>by kernel_rfl) <| Qcf rfl <| QaY (.int .i64 8) kj kj rfl (fun W=>by kernel_rfl) <| QeS (hF _ kj fun W3 e3=>?_)
  simp only [List.nil_append,List.cons_append,fins,up]
  clear hF
  have r3_3:=(Qaa r3_2 e3)
  refine QbO _ g3 _ (cat [ints .u8 (chain),ints .u8 (hash),#[.bool true],ints .u8 (key),#[.int .i64 ((num:Nat):Int)]]) 31 r3_3 rfl (Qan 31 _ _ g3 31 _ _ r3_3 rfl kj kj (isz (n:=98) kj (by rw [Qad,Qad,Qad,Qad,Qad]; simp only [qS,cat,((Qac _ _).trans hcl),((Qac _ _).trans hhl),((Qac _ _).trans hkl)]; rfl)) (eqsz (n:=98) (by rw [Qad,Qad,Qad,Qad,Qad]; simp only [qS,cat,((Qac _ _).trans (List.length_replicate (n:=32)))]; rfl) (by rw [Qad,Qad,Qad,Qad,Qad]; simp only [qS,cat,((Qac _ _).trans hcl),((Qac _ _).trans hhl),((Qac _ _).trans hkl)]; rfl)) (Qcl _ (by intro a ha; simp only [List.mem_cons,List.not_mem_nil,or_false] at ha; rcases ha with rfl | rfl | rfl | rfl | rfl; exact (Qav _ _); exact (Qav _ _); exact (QaZ _ rfl); exact (Qav _ _); exact (QaZ _ rfl)))) (fun W hp=>trivial) fun W4 p4 r3_4=>?_
  refine Qd8 <| hK8 _ _ <| wp_ret ?_
  repeat (first | with_reducible refine goR1 ?_ | with_reducible refine goR2 ?_)
  exact (show bodyPost _ _ _ .ret _ _ from ret3 (.slice none 0 0) (.agg (cat [ints .u8 (chain),ints .u8 (hash),#[.bool true],ints .u8 (key),#[.int .i64 ((num:Nat):Int)]])) (.int .i64 8) rfl (Qa0 kj) (QaU g3 31 _ r3_4 kj kj (isz (n:=98) kj (by rw [Qad,Qad,Qad,Qad,Qad]; simp only [qS,cat,((Qac _ _).trans hcl),((Qac _ _).trans hhl),((Qac _ _).trans hkl)]; rfl))) (Qa0 kj) ⟨_,rfl,(Puts.ext p4 (Ext.tr (Ext.tr x1 e2) e3) (qT x1.size l3)),_,rfl,Qbz .u8 5 _ _⟩)
set_option maxRecDepth 100000 in
theorem Ql7 (key chain hash:List Int) (num:Nat) (ctx sl:List Int) (v2 v3:Value) (B2 B3:Nat) (w:World) (hkl:key.length=32) (hcl:chain.length=32) (hhl:hash.length=32) (hkb:Qaj key) (hxb:Qaj ctx) (hxl:ctx.length≤1048576) (hx:RdK .u8 B2 ctx v2 w) (ht:RdK .u8 B3 sl v3 w) (hn:num<4294967295) (fs:List Int) (htb:Qaj sl) (htl:sl.length≤1048592) (hsh:16≤sl.length) (hne:Qb7 key (nonV num) ctx (sl.take (sl.length-16))=sl.drop (sl.length-16)) (es:mixV (QaO key (nonV num)) 1 (sl.take (sl.length-16))=fs) :
  Calls Tryd.prog 15 #[.agg (cat [ints .u8 (chain),ints .u8 (hash),#[.bool true],ints .u8 (key),#[.int .i64 ((num:Nat):Int)]]),v2,v3] w (Qb8 w (fun v W=>∃ u,v=.tuple #[u,.agg (cat [ints .u8 (chain),ints .u8 (hash),#[.bool true],ints .u8 (key),#[.int .i64 ((num+1:Nat):Int)]]),.int .i64 0]∧OwnN .u8 5 w.heap.size (fs) u W)):=by
 obtain ⟨a_c,c_c,rfl,-⟩:=id hx
 obtain ⟨a_t,c_t,rfl,-⟩:=id ht
 refine enter 42 [(0,.agg (cat [ints .u8 (chain),ints .u8 (hash),#[.bool true],ints .u8 (key),#[.int .i64 ((num:Nat):Int)]])),(1,.slice a_c ctx.length c_c),(2,.slice a_t sl.length c_t)] Tryd.func15 rfl rfl kj rfl <| sgC fun K1 hK1=>Qaq (cat [ints .u8 (chain),ints .u8 (hash),#[.bool true],ints .u8 (key),#[.int .i64 ((num:Nat):Int)]]) 31 3 rfl kj kj fun g2 W1 l2 e1 r2_1=>?_
 have x1:=Ext.tr (Rely.Ext.refl w) e1
 refine sg 1 kj <| Qaq (cat [ints .u8 (List.replicate 32 0),ints .u8 (List.replicate 32 0),#[.bool false],ints .u8 (List.replicate 32 0),#[.int .i64 0]]) 31 7 rfl kj kj fun g3 W2 l3 e2 r3_2=>?_
 have x2:=Ext.tr x1 e2
 refine sg 1 kj <| sgN hK1 <| wp_seq_k fun K4 hK4=>sgC fun K5 hK5=>sg 1 kj ?_
 have r2_2:=(Qaa r2_1 e2)
 refine Qab (.bool true) 12 rfl kj (Qah 4 _ g2 64 31 _ (.bool true) _ r2_2 rfl kj (Qa3 [ints .u8 (chain),ints .u8 (hash)] [#[.bool true]] [ints .u8 (key),#[.int .i64 ((num:Nat):Int)]] 64 (by rw [Qad,Qad]; simp only [qS,cat,((Qac _ _).trans hcl),((Qac _ _).trans hhl)]; rfl) 0 _ rfl) kj) ?_
 refine sg 1 kj <| sgN hK5 <| cond_false kj <| wp_skip <| hK4 _ _ <| wp_seq_k fun K6 hK6=>sgC fun K7 hK7=>sg 1 kj <| Qab (.int .i64 ((num:Nat):Int)) 19 rfl kj (Qah 3 _ g2 97 31 _ (.int .i64 ((num:Nat):Int)) _ r2_2 rfl kj (Qa3 [ints .u8 (chain),ints .u8 (hash),#[.bool true],ints .u8 (key)] [#[.int .i64 ((num:Nat):Int)]] [] 97 (by rw [Qad,Qad,Qad,Qad]; simp only [qS,cat,((Qac _ _).trans hcl),((Qac _ _).trans hhl),((Qac _ _).trans hkl)]; rfl) 0 _ rfl) kj) ?_
 refine Qab (.bool false) 20 rfl kj (Qaf (u:=.bool (decide (((num:Nat):Int)≥4294967295))) kj (congrArg Value.bool (decide_eq_false (by omega)))) <| sgN hK7 <| cond_false kj <| wp_skip <| hK6 _ _ <| wp_seq_k fun K8 hK8=>QaD 12 [⟨none,[(3,none)]⟩,⟨none,[(23,some 0)]⟩,⟨none,[(3,none)]⟩,⟨none,[(25,some 2)]⟩,⟨none,[(26,some 3)]⟩,⟨none,[(1,none)]⟩,⟨none,[(2,none)]⟩,⟨none,[(24,some 1),(27,some 4),(28,some 5),(29,some 6)]⟩,⟨none,[(30,some 7)]⟩,⟨none,[(22,some 8)]⟩,⟨none,[(22,some 8)]⟩,⟨none,[(31,some 9)]⟩] kj kj fun F hF=>Qar (Qag _) (.pointer (some ⟨g2,65,none⟩)) kj kj (fun W=>by kernel_rfl) <| QaR (Qag _) (.agg (ints .u8 (key))) kj kj (fun W hR=>(QaL 23 _ g2 65 31 _ _ _ (Qaa (Qaa r2_2 (Qak _)) hR) rfl kj (Qa3 [ints .u8 (chain),ints .u8 (hash),#[.bool true]] [ints .u8 (key)] [#[.int .i64 ((num:Nat):Int)]] 65 (by rw [Qad,Qad,Qad]; simp only [qS,cat,((Qac _ _).trans hcl),((Qac _ _).trans hhl)]; rfl)) kj (isz (n:=32) kj ((Qac _ _).trans hkl)))) ?_
 refine Qar (Qag _) (.pointer (some ⟨g2,97,none⟩)) kj kj (fun W=>by kernel_rfl) <| QaR (Qag _) (.int .i64 ((num:Nat):Int)) kj kj (fun W hR=>(Qah 3 _ g2 97 31 _ (.int .i64 ((num:Nat):Int)) _ (Qaa (Qaa r2_2 (Qak _)) hR) rfl kj (Qa3 [ints .u8 (chain),ints .u8 (hash),#[.bool true],ints .u8 (key)] [#[.int .i64 ((num:Nat):Int)]] [] 97 (by rw [Qad,Qad,Qad,Qad]; simp only [qS,cat,((Qac _ _).trans hcl),((Qac _ _).trans hhl),((Qac _ _).trans hkl)]; rfl) 0 _ rfl) kj)) ?_
 refine Qcv (Qag _) (OwnN .u8 5 W2.heap.size (nonV num)) (OwnN.stable _ _ _ _) 36 #[.int .i64 ((num:Nat):Int)] kj kj (fun W=>by kernel_rfl) (fun W hR=>(Qhr W2.heap.size num _ (by omega) (Rely.Ext.trans (Qak _) hR).size)) <| Qar (Qag _) (.slice a_c ctx.length c_c) kj kj (fun W=>by kernel_rfl) <| Qar (Qag _) (.slice a_t sl.length c_t) kj kj (fun W=>by kernel_rfl) <| Qdc (Qag _) (Qdy W2.heap.size fs) (Qcy _ _) 38 (fun ρ W hR hX=>?_) ?_
 ·skip
  have e24_:ρ 24=.agg (ints .u8 (key)):=hX.1
  have q27_:(OwnN .u8 5 W2.heap.size (nonV num)) (ρ 27) W:=hX.2.1
  obtain ⟨ar27,cr27,e27_,-⟩:=id (OwnN.rd q27_)
  have rd27_:=OwnN.rd q27_
  rw [e27_] at rd27_
  have e28_:ρ 28=.slice a_c ctx.length c_c:=hX.2.2.1
  have e29_:ρ 29=.slice a_t sl.length c_t:=hX.2.2.2.1
  refine ⟨#[.agg (ints .u8 (key)),.slice ar27 ((nonV num).length) cr27,.slice a_c ctx.length c_c,.slice a_t sl.length c_t],Eq.trans (b:=Result.ok (Next.enter 38 #[ρ 24,ρ 27,ρ 28,ρ 29]) W) kj (by rw [e24_,e27_,e28_,e29_]),?_⟩
  exact ((QlB key (nonV num) ctx sl _ _ _ _ _ _ W hkl hkb (QdX _) rd27_ (RdK.ext (RdK.ext hx x2) (Rely.Ext.trans (Qak _) hR)) (RdK.ext (RdK.ext ht x2) (Rely.Ext.trans (Qak _) hR)) hxb htb (QcB _) (by omega) (by omega) hsh hne).mono fun e W2 hg=>by obtain ⟨v2,e1,e2,u,e3,e4⟩:=hg; rw [es] at e4; exact ⟨v2,e1,e2,u,e3,e4.base (Rely.Ext.trans (Qak _) hR).size⟩)
 refine Qbr (Qag _) (Qdy W2.heap.size fs) (Qcy _ _) (fun ρ W hR hh=>⟨ρ 30,W,by kernel_rfl,Rely.Ext.refl _,(show (Qdy W2.heap.size fs) (ρ 30) W from hh.1)⟩) <| Qbr (Qag _) (OwnN .u8 5 W2.heap.size fs) (OwnN.stable _ _ _ _) (fun ρ W hR hh=>?_) ?_
 ·obtain ⟨u,e,h⟩:=(show (Qdy W2.heap.size fs) (ρ 22) W from hh.1)
  exact ⟨_,W,QaW (.tmp 22) 0 #[u,.int .i64 0] _ rfl e rfl,Rely.Ext.refl _,h⟩
 refine Qbr (Qag _) (fun v W=>v=.int .i64 0) (fun _ _ _ _ h=>h) (fun ρ W hR hh=>?_) ?_
 ·obtain ⟨u,e,h⟩:=(show (Qdy W2.heap.size fs) (ρ 22) W from hh.1)
  exact ⟨_,W,QaW (.tmp 22) 1 #[u,.int .i64 0] _ rfl e rfl,Rely.Ext.refl _,rfl⟩
 refine Qbr (Qag _) (OwnN .u8 5 W2.heap.size fs) (OwnN.stable _ _ _ _) (fun ρ W hR hh=>⟨ρ 31,W,by kernel_rfl,Rely.Ext.refl _,(show (OwnN .u8 5 W2.heap.size fs) (ρ 31) W from hh.1)⟩) <| QbN (hF _ fun W3 e3=>?_)
 simp only [List.nil_append,List.cons_append,List.take_succ_cons,List.take_zero,List.drop_succ_cons,List.drop_zero,finE,up]
 intro vv9 hv9 vv10 hv10 vv11 hv11 vv12 hv12 vv13 hv13 vv14 hv14
 clear hF
 obtain ⟨a15_,c15_,rfl,-⟩:=id (OwnN.rd hv9)
 obtain ⟨a16_,c16_,rfl,-⟩:=id (OwnN.rd hv12)
 subst hv13
 obtain ⟨a17_,c17_,rfl,-⟩:=id (OwnN.rd hv14)
 refine sg 1 kj <| sgN hK8 <| wp_seq_k fun K18 hK18=>sgB kj <| cond_true kj <| Qai <| sg 1 kj ?_
 have r2_3:=(Qaa r2_2 e3)
 refine Qab (.int .i64 ((num:Nat):Int)) 36 rfl kj (Qah 3 _ g2 97 31 _ (.int .i64 ((num:Nat):Int)) _ r2_3 rfl kj (Qa3 [ints .u8 (chain),ints .u8 (hash),#[.bool true],ints .u8 (key)] [#[.int .i64 ((num:Nat):Int)]] [] 97 (by rw [Qad,Qad,Qad,Qad]; simp only [qS,cat,((Qac _ _).trans hcl),((Qac _ _).trans hhl),((Qac _ _).trans hkl)]; rfl) 0 _ rfl) kj) ?_
 refine Qab (.int .i64 (((num+1:Nat):Int))) 37 rfl kj (Qaf (u:=.int .i64 (IntKind.i64.wrap (((num:Nat):Int)+1))) kj (congrArg (Value.int .i64) (by rw [show ((num:Nat):Int)+1=((num+1:Nat):Int) by omega]; exact IntWalk.i64_in _ (by omega)))) ?_
 refine sg 1 kj <| Qal g2 _ (cat [ints .u8 (chain),ints .u8 (hash),#[.bool true],ints .u8 (key),#[.int .i64 (((num+1:Nat):Int))]]) 31 r2_3 rfl kj (run_storeQ 3 _ _ g2 97 31 [ints .u8 (chain),ints .u8 (hash),#[.bool true],ints .u8 (key)] [] _ (.int .i64 (((num+1:Nat):Int))) r2_3 rfl kj kj kj (by rw [Qad,Qad,Qad,Qad]; simp only [qS,cat,((Qac _ _).trans hcl),((Qac _ _).trans hhl),((Qac _ _).trans hkl)]; rfl) rfl rfl) fun W4 p4 r2_4=>?_
 refine Qao <| hK18 _ _ <| wp_seq_k fun K20 hK20=>Qb2 (fun W=>True) [⟨none,[(9,none)]⟩,⟨none,[(3,none)]⟩,⟨none,[(10,none)]⟩,⟨none,[(39,some 0)]⟩,⟨none,[(7,none),(40,some 1)]⟩,⟨none,[(41,some 2)]⟩] [] [2,5] kj kj kj (fun W hR=>trivial) fun F hF=>QaY (.slice a17_ ((fs).length) c17_) kj kj rfl (fun W=>by kernel_rfl) <| Qch (.agg (cat [ints .u8 (chain),ints .u8 (hash),#[.bool true],ints .u8 (key),#[.int .i64 (((num+1:Nat):Int))]])) kj kj kj rfl (fun W hR=>(Qap 31 _ g2 31 _ _ (Qaa (Qaa r2_4 (Qak _)) hR) rfl kj kj (isz (n:=98) kj (by rw [Qad,Qad,Qad,Qad,Qad]; simp only [qS,cat,((Qac _ _).trans hcl),((Qac _ _).trans hhl),((Qac _ _).trans hkl)]; rfl)))) ?_
 refine QaY (.int .i64 0) kj kj rfl (fun W=>by kernel_rfl) <| QaY (.slice a17_ ((fs).length) c17_) kj kj rfl (fun W=>by kernel_rfl) <| Qcf rfl <| QaY (.int .i64 0) kj kj rfl (fun W=>by kernel_rfl) <| QeS (hF _ kj fun W5 e5=>?_)
 simp only [List.nil_append,List.cons_append,fins,up]
 clear hF
 have r3_5:=(Qaa (Puts.row p4 (Qaa r3_2 e3) (Qa2 r2_1 l3)) e5)
 refine QbO _ g3 _ (cat [ints .u8 (chain),ints .u8 (hash),#[.bool true],ints .u8 (key),#[.int .i64 (((num+1:Nat):Int))]]) 31 r3_5 rfl (Qan 31 _ _ g3 31 _ _ r3_5 rfl kj kj (isz (n:=98) kj (by rw [Qad,Qad,Qad,Qad,Qad]; simp only [qS,cat,((Qac _ _).trans hcl),((Qac _ _).trans hhl),((Qac _ _).trans hkl)]; rfl)) (eqsz (n:=98) (by rw [Qad,Qad,Qad,Qad,Qad]; simp only [qS,cat,((Qac _ _).trans (List.length_replicate (n:=32)))]; rfl) (by rw [Qad,Qad,Qad,Qad,Qad]; simp only [qS,cat,((Qac _ _).trans hcl),((Qac _ _).trans hhl),((Qac _ _).trans hkl)]; rfl)) (Qcl _ (by intro a ha; simp only [List.mem_cons,List.not_mem_nil,or_false] at ha; rcases ha with rfl | rfl | rfl | rfl | rfl; exact (Qav _ _); exact (Qav _ _); exact (QaZ _ rfl); exact (Qav _ _); exact (QaZ _ rfl)))) (fun W hp=>trivial) fun W6 p6 r3_6=>?_
 refine Qd8 <| hK20 _ _ <| wp_ret ?_
 repeat (first | with_reducible refine goR1 ?_ | with_reducible refine goR2 ?_)
 exact (show bodyPost _ _ _ .ret _ _ from ret3 (.slice a17_ ((fs).length) c17_) (.agg (cat [ints .u8 (chain),ints .u8 (hash),#[.bool true],ints .u8 (key),#[.int .i64 (((num+1:Nat):Int))]])) (.int .i64 0) rfl (Qa0 kj) (QaU g3 31 _ r3_6 kj kj (isz (n:=98) kj (by rw [Qad,Qad,Qad,Qad,Qad]; simp only [qS,cat,((Qac _ _).trans hcl),((Qac _ _).trans hhl),((Qac _ _).trans hkl)]; rfl))) (Qa0 kj) ⟨_,rfl,(Puts.ext p6 (Ext.tr (Puts.ext p4 (Ext.tr x2 e3) (qT (Rely.Ext.refl w).size l2)) e5) (qT x1.size l3)),_,rfl,OwnN.base (qT (qT (qR _) e1.size) e2.size) (((hv14.puts p4 (Qbe hv14 (Qau r2_2))).ext e5).puts p6 (Qbe hv14 (Qau r3_2)))⟩)
set_option maxRecDepth 100000 in
theorem Qjp (key chain hash:List Int) (num:Nat) (ctx sl:List Int) (v2 v3:Value) (B2 B3:Nat) (w:World) (hkl:key.length=32) (hcl:chain.length=32) (hhl:hash.length=32) (hkb:Qaj key) (hxb:Qaj ctx) (hxl:ctx.length≤1048576) (hx:RdK .u8 B2 ctx v2 w) (ht:RdK .u8 B3 sl v3 w) (hn:num<4294967295) (hO:∀ (u1 u2 u3:Value) (C1 C2 C3:Nat) (W:World),RdK .u8 C1 (nonV num) u1 W→RdK .u8 C2 ctx u2 W→RdK .u8 C3 sl u3 W→Calls Tryd.prog 38 #[.agg (ints .u8 key),u1,u2,u3] W (Ret W (.tuple #[.slice none 0 0,.int .i64 2]))) :
  Calls Tryd.prog 15 #[.agg (cat [ints .u8 (chain),ints .u8 (hash),#[.bool true],ints .u8 (key),#[.int .i64 ((num:Nat):Int)]]),v2,v3] w (Qb8 w (fun v W=>∃ u,v=.tuple #[u,.agg (cat [ints .u8 (chain),ints .u8 (hash),#[.bool true],ints .u8 (key),#[.int .i64 ((num:Nat):Int)]]),.int .i64 2]∧OwnN .u8 5 w.heap.size ([]) u W)):=by
 obtain ⟨a_c,c_c,rfl,-⟩:=id hx
 obtain ⟨a_t,c_t,rfl,-⟩:=id ht
 refine enter 42 [(0,.agg (cat [ints .u8 (chain),ints .u8 (hash),#[.bool true],ints .u8 (key),#[.int .i64 ((num:Nat):Int)]])),(1,.slice a_c ctx.length c_c),(2,.slice a_t sl.length c_t)] Tryd.func15 rfl rfl kj rfl <| sgC fun K1 hK1=>Qaq (cat [ints .u8 (chain),ints .u8 (hash),#[.bool true],ints .u8 (key),#[.int .i64 ((num:Nat):Int)]]) 31 3 rfl kj kj fun g2 W1 l2 e1 r2_1=>?_
 have x1:=Ext.tr (Rely.Ext.refl w) e1
 have b2:=qT (Rely.Ext.refl w).size l2
 refine sg 1 kj <| Qaq (cat [ints .u8 (List.replicate 32 0),ints .u8 (List.replicate 32 0),#[.bool false],ints .u8 (List.replicate 32 0),#[.int .i64 0]]) 31 7 rfl kj kj fun g3 W2 l3 e2 r3_2=>?_
 have x2:=Ext.tr x1 e2
 refine sg 1 kj <| sgN hK1 <| wp_seq_k fun K4 hK4=>sgC fun K5 hK5=>sg 1 kj ?_
 have r2_2:=(Qaa r2_1 e2)
 refine Qab (.bool true) 12 rfl kj (Qah 4 _ g2 64 31 _ (.bool true) _ r2_2 rfl kj (Qa3 [ints .u8 (chain),ints .u8 (hash)] [#[.bool true]] [ints .u8 (key),#[.int .i64 ((num:Nat):Int)]] 64 (by rw [Qad,Qad]; simp only [qS,cat,((Qac _ _).trans hcl),((Qac _ _).trans hhl)]; rfl) 0 _ rfl) kj) ?_
 refine sg 1 kj <| sgN hK5 <| cond_false kj <| wp_skip <| hK4 _ _ <| wp_seq_k fun K6 hK6=>sgC fun K7 hK7=>sg 1 kj <| Qab (.int .i64 ((num:Nat):Int)) 19 rfl kj (Qah 3 _ g2 97 31 _ (.int .i64 ((num:Nat):Int)) _ r2_2 rfl kj (Qa3 [ints .u8 (chain),ints .u8 (hash),#[.bool true],ints .u8 (key)] [#[.int .i64 ((num:Nat):Int)]] [] 97 (by rw [Qad,Qad,Qad,Qad]; simp only [qS,cat,((Qac _ _).trans hcl),((Qac _ _).trans hhl),((Qac _ _).trans hkl)]; rfl) 0 _ rfl) kj) ?_
 refine Qab (.bool false) 20 rfl kj (Qaf (u:=.bool (decide (((num:Nat):Int)≥4294967295))) kj (congrArg Value.bool (decide_eq_false (by omega)))) <| sgN hK7 <| cond_false kj <| wp_skip <| hK6 _ _ <| wp_seq_k fun K8 hK8=>QaD 12 [⟨none,[(3,none)]⟩,⟨none,[(23,some 0)]⟩,⟨none,[(3,none)]⟩,⟨none,[(25,some 2)]⟩,⟨none,[(26,some 3)]⟩,⟨none,[(1,none)]⟩,⟨none,[(2,none)]⟩,⟨none,[(24,some 1),(27,some 4),(28,some 5),(29,some 6)]⟩,⟨none,[(30,some 7)]⟩,⟨none,[(22,some 8)]⟩,⟨none,[(22,some 8)]⟩,⟨none,[(31,some 9)]⟩] kj kj fun F hF=>Qar (Qag _) (.pointer (some ⟨g2,65,none⟩)) kj kj (fun W=>by kernel_rfl) <| QaR (Qag _) (.agg (ints .u8 (key))) kj kj (fun W hR=>(QaL 23 _ g2 65 31 _ _ _ (Qaa (Qaa r2_2 (Qak _)) hR) rfl kj (Qa3 [ints .u8 (chain),ints .u8 (hash),#[.bool true]] [ints .u8 (key)] [#[.int .i64 ((num:Nat):Int)]] 65 (by rw [Qad,Qad,Qad]; simp only [qS,cat,((Qac _ _).trans hcl),((Qac _ _).trans hhl)]; rfl)) kj (isz (n:=32) kj ((Qac _ _).trans hkl)))) ?_
 refine Qar (Qag _) (.pointer (some ⟨g2,97,none⟩)) kj kj (fun W=>by kernel_rfl) <| QaR (Qag _) (.int .i64 ((num:Nat):Int)) kj kj (fun W hR=>(Qah 3 _ g2 97 31 _ (.int .i64 ((num:Nat):Int)) _ (Qaa (Qaa r2_2 (Qak _)) hR) rfl kj (Qa3 [ints .u8 (chain),ints .u8 (hash),#[.bool true],ints .u8 (key)] [#[.int .i64 ((num:Nat):Int)]] [] 97 (by rw [Qad,Qad,Qad,Qad]; simp only [qS,cat,((Qac _ _).trans hcl),((Qac _ _).trans hhl),((Qac _ _).trans hkl)]; rfl) 0 _ rfl) kj)) ?_
 refine Qcv (Qag _) (OwnN .u8 5 W2.heap.size (nonV num)) (OwnN.stable _ _ _ _) 36 #[.int .i64 ((num:Nat):Int)] kj kj (fun W=>by kernel_rfl) (fun W hR=>(Qhr W2.heap.size num _ (by omega) (Rely.Ext.trans (Qak _) hR).size)) <| Qar (Qag _) (.slice a_c ctx.length c_c) kj kj (fun W=>by kernel_rfl) <| Qar (Qag _) (.slice a_t sl.length c_t) kj kj (fun W=>by kernel_rfl) <| Qdc (Qag _) (fun v W=>∃ u,v=.tuple #[u,.int .i64 2]∧u=.slice none 0 0) (fun _ _ _ _ h=>h) 38 (fun ρ W hR hX=>?_) ?_
 ·skip
  have e24_:ρ 24=.agg (ints .u8 (key)):=hX.1
  have q27_:(OwnN .u8 5 W2.heap.size (nonV num)) (ρ 27) W:=hX.2.1
  obtain ⟨ar27,cr27,e27_,-⟩:=id (OwnN.rd q27_)
  have rd27_:=OwnN.rd q27_
  rw [e27_] at rd27_
  have e28_:ρ 28=.slice a_c ctx.length c_c:=hX.2.2.1
  have e29_:ρ 29=.slice a_t sl.length c_t:=hX.2.2.2.1
  refine ⟨#[.agg (ints .u8 (key)),.slice ar27 ((nonV num).length) cr27,.slice a_c ctx.length c_c,.slice a_t sl.length c_t],Eq.trans (b:=Result.ok (Next.enter 38 #[ρ 24,ρ 27,ρ 28,ρ 29]) W) kj (by rw [e24_,e27_,e28_,e29_]),?_⟩
  exact ((hO _ _ _ _ _ _ W rd27_ (RdK.ext (RdK.ext hx x2) (Rely.Ext.trans (Qak _) hR)) (RdK.ext (RdK.ext ht x2) (Rely.Ext.trans (Qak _) hR))).mono fun e W2 hg=>⟨_,hg.1,hg.2,_,rfl,rfl⟩)
 refine Qbr (Qag _) (fun v W=>∃ u,v=.tuple #[u,.int .i64 2]∧u=.slice none 0 0) (fun _ _ _ _ h=>h) (fun ρ W hR hh=>⟨ρ 30,W,by kernel_rfl,Rely.Ext.refl _,(show (fun v W=>∃ u,v=.tuple #[u,.int .i64 2]∧u=.slice none 0 0) (ρ 30) W from hh.1)⟩) <| Qbr (Qag _) (fun v W=>v=.slice none 0 0) (fun _ _ _ _ h=>h) (fun ρ W hR hh=>?_) ?_
 ·obtain ⟨u,e,h⟩:=(show (fun v W=>∃ u,v=.tuple #[u,.int .i64 2]∧u=.slice none 0 0) (ρ 22) W from hh.1)
  exact ⟨_,W,QaW (.tmp 22) 0 #[u,.int .i64 2] _ rfl e rfl,Rely.Ext.refl _,h⟩
 refine Qbr (Qag _) (fun v W=>v=.int .i64 2) (fun _ _ _ _ h=>h) (fun ρ W hR hh=>?_) ?_
 ·obtain ⟨u,e,h⟩:=(show (fun v W=>∃ u,v=.tuple #[u,.int .i64 2]∧u=.slice none 0 0) (ρ 22) W from hh.1)
  exact ⟨_,W,QaW (.tmp 22) 1 #[u,.int .i64 2] _ rfl e rfl,Rely.Ext.refl _,rfl⟩
 refine Qbr (Qag _) (fun v W=>v=.slice none 0 0) (fun _ _ _ _ h=>h) (fun ρ W hR hh=>⟨ρ 31,W,by kernel_rfl,Rely.Ext.refl _,(show (fun v W=>v=.slice none 0 0) (ρ 31) W from hh.1)⟩) <| QbN (hF _ fun W3 e3=>?_)
 simp only [List.nil_append,List.cons_append,List.take_succ_cons,List.take_zero,List.drop_succ_cons,List.drop_zero,finE,up]
 intro vv9 hv9 vv10 hv10 vv11 hv11 vv12 hv12 vv13 hv13 vv14 hv14
 clear hF
 obtain ⟨a15_,c15_,rfl,-⟩:=id (OwnN.rd hv9)
 subst hv12
 subst hv13
 subst hv14
 refine sg 1 kj <| sgN hK8 <| wp_seq_k fun K16 hK16=>sgB kj <| cond_false kj <| wp_skip <| hK16 _ _ <| wp_seq_k fun K18 hK18=>Qb2 (fun W=>True) [⟨none,[(9,none)]⟩,⟨none,[(3,none)]⟩,⟨none,[(10,none)]⟩,⟨none,[(39,some 0)]⟩,⟨none,[(7,none),(40,some 1)]⟩,⟨none,[(41,some 2)]⟩] [] [2,5] kj kj kj (fun W hR=>trivial) fun F hF=>QaY (.slice none 0 0) kj kj rfl (fun W=>by kernel_rfl) ?_
 refine Qch (.agg (cat [ints .u8 (chain),ints .u8 (hash),#[.bool true],ints .u8 (key),#[.int .i64 ((num:Nat):Int)]])) kj kj kj rfl (fun W hR=>(Qap 31 _ g2 31 _ _ (Qaa (Qaa (Qaa r2_2 e3) (Qak _)) hR) rfl kj kj (isz (n:=98) kj (by rw [Qad,Qad,Qad,Qad,Qad]; simp only [qS,cat,((Qac _ _).trans hcl),((Qac _ _).trans hhl),((Qac _ _).trans hkl)]; rfl)))) ?_
 refine QaY (.int .i64 2) kj kj rfl (fun W=>by kernel_rfl) <| QaY (.slice none 0 0) kj kj rfl (fun W=>by kernel_rfl) <| Qcf rfl <| QaY (.int .i64 2) kj kj rfl (fun W=>by kernel_rfl) <| QeS (hF _ kj fun W4 e4=>?_)
 simp only [List.nil_append,List.cons_append,fins,up]
 clear hF
 have r3_4:=(Qaa (Qaa r3_2 e3) e4)
 refine QbO _ g3 _ (cat [ints .u8 (chain),ints .u8 (hash),#[.bool true],ints .u8 (key),#[.int .i64 ((num:Nat):Int)]]) 31 r3_4 rfl (Qan 31 _ _ g3 31 _ _ r3_4 rfl kj kj (isz (n:=98) kj (by rw [Qad,Qad,Qad,Qad,Qad]; simp only [qS,cat,((Qac _ _).trans hcl),((Qac _ _).trans hhl),((Qac _ _).trans hkl)]; rfl)) (eqsz (n:=98) (by rw [Qad,Qad,Qad,Qad,Qad]; simp only [qS,cat,((Qac _ _).trans (List.length_replicate (n:=32)))]; rfl) (by rw [Qad,Qad,Qad,Qad,Qad]; simp only [qS,cat,((Qac _ _).trans hcl),((Qac _ _).trans hhl),((Qac _ _).trans hkl)]; rfl)) (Qcl _ (by intro a ha; simp only [List.mem_cons,List.not_mem_nil,or_false] at ha; rcases ha with rfl | rfl | rfl | rfl | rfl; exact (Qav _ _); exact (Qav _ _); exact (QaZ _ rfl); exact (Qav _ _); exact (QaZ _ rfl)))) (fun W hp=>trivial) fun W5 p5 r3_5=>?_
 refine Qd8 <| hK18 _ _ <| wp_ret ?_
 repeat (first | with_reducible refine goR1 ?_ | with_reducible refine goR2 ?_)
 exact (show bodyPost _ _ _ .ret _ _ from ret3 (.slice none 0 0) (.agg (cat [ints .u8 (chain),ints .u8 (hash),#[.bool true],ints .u8 (key),#[.int .i64 ((num:Nat):Int)]])) (.int .i64 2) rfl (Qa0 kj) (QaU g3 31 _ r3_5 kj kj (isz (n:=98) kj (by rw [Qad,Qad,Qad,Qad,Qad]; simp only [qS,cat,((Qac _ _).trans hcl),((Qac _ _).trans hhl),((Qac _ _).trans hkl)]; rfl))) (Qa0 kj) ⟨_,rfl,(Puts.ext p5 (Ext.tr (Ext.tr x2 e3) e4) (qT x1.size l3)),_,rfl,Qbz .u8 5 _ _⟩)
end Go.Proofs.YtophlgnnjjkkiaaDoor.Ci
end
section
namespace Go.Proofs.YtophlgnnjjkkiaaDoor.Ci
open Go Go.RowKit
open Rely Auto Own Sha Sha
open Cha
open Ae hiding run_storeQ
open Ll hiding run_storeQ
set_option maxRecDepth 100000 in
theorem Qlv (g : Nat) (key:List Int) (num:Nat) (ctx text fs:List Int) (es:QcC key (nonV num) ctx text=fs) (v2 v3:Value) (B2 B3:Nat) (th tq:TypeId) (w:World) (hkl:key.length=32) (hh:w.heap[2]? = some (.cells (ints .u32 [1634760805,857760878,2036477234,1797285236]) th)) (hq:w.heap[3]? = some (.cells (ints .i64 [0,4,8,12,1,5,9,13,2,6,10,14,3,7,11,15,0,5,10,15,1,6,11,12,2,7,8,13,3,4,9,14]) tq)) (hg:w.heap[g]? = some (.cells (cat [ints .u8 (key),#[.bool true],#[.int .i64 ((num:Nat):Int)]]) 65)) (hn:num<4294967295) (hxb:Qaj ctx) (hxl:ctx.length≤1048576) (htl:text.length≤1048576) (hx:RdK .u8 B2 ctx v2 w) (ht:RdK .u8 B3 text v3 w):Calls Tryd.prog 33 #[.pointer (some ⟨g,0,none⟩),.func (.func 34) #[] #[],v2,v3] w (fun e W=>∃ u,e=.returned (.tuple #[u,.nilIface])∧OwnN .u8 5 w.heap.size (fs) u W∧ExtB g w W∧W.heap[g]? = some (.cells (cat [ints .u8 (key),#[.bool true],#[.int .i64 ((num+1:Nat):Int)]]) 65)):=by
 obtain ⟨a_c,c_c,rfl,-⟩:=id hx
 obtain ⟨a_t,c_t,rfl,-⟩:=id ht
 refine enter 52 [(0,.pointer (some ⟨g,0,none⟩)),(1,.func (.func 34) #[] #[]),(2,.slice a_c ctx.length c_c),(3,.slice a_t text.length c_t)] Tryd.func33 rfl rfl kj rfl <| sgB kj <| wp_seq_k fun K5 hK5=>sgC fun K6 hK6=>sg 3 kj <| Qab (.bool true) 15 rfl kj (Qah 4 _ g 32 65 _ (.bool true) _ hg rfl kj (Qa3 [ints .u8 (key)] [#[.bool true]] [#[.int .i64 ((num:Nat):Int)]] 32 ((Qac _ _).trans hkl) 0 _ rfl) kj) <| sg 1 kj <| sgN hK6 <| cond_false kj <| wp_skip ?_
 refine hK5 _ _ <| wp_seq_k fun K7 hK7=>sgC fun K8 hK8=>sg 3 kj <| Qab (.int .i64 ((num:Nat):Int)) 22 rfl kj (Qah 3 _ g 33 65 _ (.int .i64 ((num:Nat):Int)) _ hg rfl kj (Qa3 [ints .u8 (key),#[.bool true]] [#[.int .i64 ((num:Nat):Int)]] [] 33 (by rw [Qad,Qad]; simp only [qS,cat,((Qac _ _).trans hkl)]; rfl) 0 _ rfl) kj) ?_
 refine Qab (.bool false) 23 rfl kj (Qaf (u:=.bool ((((num:Nat):Int)==4294967295))) kj (congrArg Value.bool (beq_eq_false_iff_ne.2 (by omega)))) <| sgN hK8 <| cond_false kj <| wp_skip <| hK7 _ _ <| wp_seq_k fun K9 hK9=>QaD 17 [⟨none,[(1,none)]⟩,⟨none,[(0,none)]⟩,⟨none,[(27,some 1)]⟩,⟨none,[(28,some 2)]⟩,⟨none,[(29,some 3)]⟩,⟨none,[(0,none)]⟩,⟨none,[(31,some 5)]⟩,⟨none,[(32,some 6)]⟩,⟨none,[(33,some 7)]⟩,⟨none,[(34,some 8)]⟩,⟨none,[(2,none)]⟩,⟨none,[(3,none)]⟩,⟨none,[(26,some 0),(30,some 4),(35,some 9),(36,some 10),(37,some 11)]⟩,⟨none,[(38,some 12)]⟩,⟨none,[(25,some 13)]⟩,⟨none,[(25,some 13)]⟩,⟨none,[(39,some 14)]⟩] kj kj fun F hF=>Qar (Qag _) (.func (.func 34) #[] #[]) kj kj (fun W=>by kernel_rfl) <| Qar (Qag _) (.pointer (some ⟨g,0,none⟩)) kj kj (fun W=>by kernel_rfl) <| Qar (Qag _) (.pointer (some ⟨g,0,none⟩)) kj kj (fun W=>by kernel_rfl) ?_
 refine Qar (Qag _) (.pointer (some ⟨g,0,none⟩)) kj kj (fun W=>by kernel_rfl) <| QaR (Qag _) (.agg (ints .u8 (key))) kj kj (fun W hR=>(QaL 23 _ g 0 65 _ _ _ (Qaa (Qaa hg (Qak _)) hR) rfl kj (Qa3 [] [ints .u8 (key)] [#[.bool true],#[.int .i64 ((num:Nat):Int)]] 0 kj) kj (isz (n:=32) kj ((Qac _ _).trans hkl)))) <| Qar (Qag _) (.pointer (some ⟨g,0,none⟩)) kj kj (fun W=>by kernel_rfl) <| Qar (Qag _) (.pointer (some ⟨g,0,none⟩)) kj kj (fun W=>by kernel_rfl) <| Qar (Qag _) (.pointer (some ⟨g,33,none⟩)) kj kj (fun W=>by kernel_rfl) <| QaR (Qag _) (.int .i64 ((num:Nat):Int)) kj kj (fun W hR=>(Qah 3 _ g 33 65 _ (.int .i64 ((num:Nat):Int)) _ (Qaa (Qaa hg (Qak _)) hR) rfl kj (Qa3 [ints .u8 (key),#[.bool true]] [#[.int .i64 ((num:Nat):Int)]] [] 33 (by rw [Qad,Qad]; simp only [qS,cat,((Qac _ _).trans hkl)]; rfl) 0 _ rfl) kj)) ?_
 refine Qcv (Qag _) (OwnN .u8 5 w.heap.size (nonV num)) (OwnN.stable _ _ _ _) 46 #[.int .i64 ((num:Nat):Int)] kj kj (fun W=>by kernel_rfl) (fun W hR=>(QgT w.heap.size num _ (Rely.Ext.trans (Qak _) hR).size)) <| Qar (Qag _) (.slice a_c ctx.length c_c) kj kj (fun W=>by kernel_rfl) <| Qar (Qag _) (.slice a_t text.length c_t) kj kj (fun W=>by kernel_rfl) <| Qdc (Qag _) (MixR w.heap.size fs) (Qcj _ _) 34 (fun ρ W hR hX=>?_) ?_
 ·skip
  have e30_:ρ 30=.agg (ints .u8 (key)):=hX.2.1
  have q35_:(OwnN .u8 5 w.heap.size (nonV num)) (ρ 35) W:=hX.2.2.1
  obtain ⟨ar35,cr35,e35_,-⟩:=id (OwnN.rd q35_)
  have rd35_:=OwnN.rd q35_
  rw [e35_] at rd35_
  have e36_:ρ 36=.slice a_c ctx.length c_c:=hX.2.2.2.1
  have e37_:ρ 37=.slice a_t text.length c_t:=hX.2.2.2.2.1
  have e26_:ρ 26=.func (.func 34) #[] #[]:=hX.1
  refine ⟨#[.agg (ints .u8 (key)),.slice ar35 ((nonV num).length) cr35,.slice a_c ctx.length c_c,.slice a_t text.length c_t],Qfu (ρ':=fun t=>if t=26 then ρ 26 else if t=30 then ρ 30 else if t=35 then ρ 35 else if t=36 then ρ 36 else if t=37 then ρ 37 else ρ t) kj ?_,?_⟩
  ·rw [e26_,e30_,e35_,e36_,e37_]; kernel_rfl
  exact ((Qls key (nonV num) ctx text _ _ _ _ _ _ th tq W (Qaa (Qaa hh (Qak _)) hR) (Qaa (Qaa hq (Qak _)) hR) hkl rd35_ (RdK.ext (RdK.ext hx (Rely.Ext.refl w)) (Rely.Ext.trans (Qak _) hR)) (RdK.ext (RdK.ext ht (Rely.Ext.refl w)) (Rely.Ext.trans (Qak _) hR)) hxb (QcB _) hxl htl).mono fun e W2 hg=>by obtain ⟨v2,e1,e2,u,e3,e4⟩:=hg; rw [es] at e4; exact ⟨v2,e1,e2,u,e3,e4.base (Rely.Ext.trans (Qak _) hR).size⟩)
 refine Qbr (Qag _) (MixR w.heap.size fs) (Qcj _ _) (fun ρ W hR hh=>⟨ρ 38,W,by kernel_rfl,Rely.Ext.refl _,(show (MixR w.heap.size fs) (ρ 38) W from hh.1)⟩) <| Qbr (Qag _) (OwnN .u8 5 w.heap.size fs) (OwnN.stable _ _ _ _) (fun ρ W hR hh=>?_) ?_
 ·obtain ⟨u,e,h⟩:=(show (MixR w.heap.size fs) (ρ 25) W from hh.1)
  exact ⟨_,W,QaW (.tmp 25) 0 #[u,.nilIface] _ rfl e rfl,Rely.Ext.refl _,h⟩
 refine Qbr (Qag _) (fun v W=>v=.nilIface) (fun _ _ _ _ h=>h) (fun ρ W hR hh=>?_) ?_
 ·obtain ⟨u,e,h⟩:=(show (MixR w.heap.size fs) (ρ 25) W from hh.1)
  exact ⟨_,W,QaW (.tmp 25) 1 #[u,.nilIface] _ rfl e rfl,Rely.Ext.refl _,rfl⟩
 refine Qbr (Qag _) (OwnN .u8 5 w.heap.size fs) (OwnN.stable _ _ _ _) (fun ρ W hR hh=>⟨ρ 39,W,by kernel_rfl,Rely.Ext.refl _,(show (OwnN .u8 5 w.heap.size fs) (ρ 39) W from hh.1)⟩) <| QbN (hF _ fun W1 e1=>?_)
 simp only [List.nil_append,List.cons_append,List.take_succ_cons,List.take_zero,List.drop_succ_cons,List.drop_zero,finE,up]
 intro vv10 hv10 vv11 hv11 vv12 hv12 vv13 hv13 vv14 hv14 vv15 hv15
 clear hF
 obtain ⟨a16_,c16_,rfl,-⟩:=id (OwnN.rd hv10)
 obtain ⟨a17_,c17_,rfl,-⟩:=id (OwnN.rd hv13)
 subst hv14
 obtain ⟨a18_,c18_,rfl,-⟩:=id (OwnN.rd hv15)
 refine sg 1 kj <| sgN hK9 <| wp_seq_k fun K19 hK19=>sgB kj <| cond_false kj <| wp_skip <| hK19 _ _ <| sgC fun K21 hK21=>sg 3 kj ?_
 have r3_1:=(Qaa hg e1)
 refine Qab (.int .i64 ((num:Nat):Int)) 47 rfl kj (Qah 3 _ g 33 65 _ (.int .i64 ((num:Nat):Int)) _ r3_1 rfl kj (Qa3 [ints .u8 (key),#[.bool true]] [#[.int .i64 ((num:Nat):Int)]] [] 33 (by rw [Qad,Qad]; simp only [qS,cat,((Qac _ _).trans hkl)]; rfl) 0 _ rfl) kj) ?_
 refine Qab (.int .i64 ((num+1:Nat):Int)) 48 rfl kj (Qaf (u:=.int .i64 (IntKind.i64.wrap (((num:Nat):Int)+1))) kj (congrArg (Value.int .i64) (i64n _ _ (by omega) (by omega)))) <| sg 2 kj ?_
 have xb1:=ExtB.ext (ExtB.refl g w) (Ext.tr (Rely.Ext.refl w) e1)
 refine Qal g _ (cat [ints .u8 (key),#[.bool true],#[.int .i64 ((num+1:Nat):Int)]]) 65 r3_1 rfl kj (run_storeQ 3 _ _ g 33 65 [ints .u8 (key),#[.bool true]] [] _ (.int .i64 ((num+1:Nat):Int)) r3_1 rfl kj kj kj (by rw [Qad,Qad]; simp only [qS,cat,((Qac _ _).trans hkl)]; rfl) rfl rfl) fun W2 p2 r3_2=>?_
 refine sgN hK21 <| sgB kj <| wp_ret ?_
 repeat (first | with_reducible refine goR1 ?_ | with_reducible refine goR2 ?_)
 exact (show bodyPost _ _ _ .ret _ _ from ret2 (.slice a18_ ((fs).length) c18_) (.nilIface) rfl (Qa0 kj) (Qa0 kj) ⟨_,rfl,OwnN.base (Rely.Ext.refl w).size (hv15.puts p2 (Qbe hv15 (Qau hg))),(ExtB.puts xb1 p2),r3_2⟩)
set_option maxRecDepth 100000 in
theorem QmR (g : Nat) (key:List Int) (num:Nat) (ctx text fs:List Int) (es:QcC key (nonV num) ctx text=fs) (v2 v3:Value) (B2 B3:Nat) (th tq:TypeId) (w:World) (hkl:key.length=32) (hh:w.heap[2]? = some (.cells (ints .u32 [1634760805,857760878,2036477234,1797285236]) th)) (hq:w.heap[3]? = some (.cells (ints .i64 [0,4,8,12,1,5,9,13,2,6,10,14,3,7,11,15,0,5,10,15,1,6,11,12,2,7,8,13,3,4,9,14]) tq)) (hg:w.heap[g]? = some (.cells (cat [ints .u8 (key),#[.bool true],#[.int .i64 ((num:Nat):Int)]]) 65)) (hn:num<4294967295) (hxb:Qaj ctx) (hxl:ctx.length≤1048576) (htl:text.length≤1048576) (hx:RdK .u8 B2 ctx v2 w) (ht:RdK .u8 B3 text v3 w):Calls Tryd.prog 12 #[.pointer (some ⟨g,0,none⟩),v2,v3] w (fun e W=>∃ u,e=.returned (.tuple #[u,.nilIface])∧OwnN .u8 5 w.heap.size (fs) u W∧ExtB g w W∧W.heap[g]? = some (.cells (cat [ints .u8 (key),#[.bool true],#[.int .i64 ((num+1:Nat):Int)]]) 65)):=by
  obtain ⟨a_c,c_c,rfl,-⟩:=id hx
  obtain ⟨a_t,c_t,rfl,-⟩:=id ht
  refine enter 19 [(0,.pointer (some ⟨g,0,none⟩)),(1,.slice a_c ctx.length c_c),(2,.slice a_t text.length c_t)] Tryd.func12 rfl rfl kj rfl <| sgB kj <| wp_seq_k fun K5 hK5=>sgB kj <| cond_false kj <| wp_skip <| hK5 _ _ <| sgC fun K7 hK7=>sg 5 kj ?_
  have xb0:=ExtB.ext (ExtB.refl g w) (Rely.Ext.refl w)
  refine Qat (fun v W'=>∃ u,v=.tuple #[u,.nilIface]∧OwnN .u8 5 w.heap.size (fs) u W'∧ExtB g w W'∧W'.heap[g]? = some (.cells (cat [ints .u8 (key),#[.bool true],#[.int .i64 ((num+1:Nat):Int)]]) 65)) 33 #[.pointer (some ⟨g,0,none⟩),.func (.func 34) #[] #[],.slice a_c ctx.length c_c,.slice a_t text.length c_t] 16 rfl kj kj ((Qlv g key num ctx text fs es _ _ _ _ th tq _ hkl hh hq hg hn hxb hxl htl (RdK.ext hx (Rely.Ext.refl w)) (RdK.ext ht (Rely.Ext.refl w))).mono (by rintro e w' ⟨u,rfl,h1,h2,h3⟩; exact ⟨_,rfl,u,rfl,h1,h2,h3⟩)) fun v W1 h8=>?_
  obtain ⟨u8_,rfl,hu8_,q1,r3_1⟩:=h8
  obtain ⟨a8_,c8_,rfl,-⟩:=id (OwnN.rd hu8_)
  refine sg 4 kj <| sgN hK7 <| wp_ret ?_
  repeat (first | with_reducible refine goR1 ?_ | with_reducible refine goR2 ?_)
  exact (show bodyPost _ _ _ .ret _ _ from ret2 (.slice a8_ ((fs).length) c8_) (.nilIface) rfl (Qa0 kj) (Qa0 kj) ⟨_,rfl,OwnN.base xb0.2.2.2.1 hu8_,(ExtB.trans xb0 q1),r3_1⟩)
end Go.Proofs.YtophlgnnjjkkiaaDoor.Ci
end
section
namespace Go.Proofs.YtophlgnnjjkkiaaDoor.Ci
open Go Go.RowKit
open Rely Auto Own Sha Sha
open Cha
open Ae hiding run_storeQ
open Ll hiding run_storeQ
set_option maxRecDepth 100000 in
theorem Qkg (g : Nat) (key:List Int) (num:Nat) (ctx text:List Int) (v2 v3:Value) (B2 B3:Nat) (th tq:TypeId) (w:World) (hkl:key.length=32) (hh:w.heap[2]? = some (.cells (ints .u32 [1634760805,857760878,2036477234,1797285236]) th)) (hq:w.heap[3]? = some (.cells (ints .i64 [0,4,8,12,1,5,9,13,2,6,10,14,3,7,11,15,0,5,10,15,1,6,11,12,2,7,8,13,3,4,9,14]) tq)) (hg:w.heap[g]? = some (.cells (cat [ints .u8 (key),#[.bool true],#[.int .i64 ((num:Nat):Int)]]) 65)) (hxb:Qaj ctx) (hxl:ctx.length≤1048576) (hx:RdK .u8 B2 ctx v2 w) (ht:RdK .u8 B3 text v3 w) (hn:num=4294967295):Calls Tryd.prog 33 #[.pointer (some ⟨g,0,none⟩),.func (.func 34) #[] #[],v2,v3] w (Ret w (.tuple #[.slice none 0 0,.iface 60 (.int .i64 8)])):=by
  obtain ⟨a_c,c_c,rfl,-⟩:=id hx
  obtain ⟨a_t,c_t,rfl,-⟩:=id ht
  refine enter 52 [(0,.pointer (some ⟨g,0,none⟩)),(1,.func (.func 34) #[] #[]),(2,.slice a_c ctx.length c_c),(3,.slice a_t text.length c_t)] Tryd.func33 rfl rfl kj rfl <| sgB kj <| wp_seq_k fun K5 hK5=>sgC fun K6 hK6=>sg 3 kj <| Qab (.bool true) 15 rfl kj (Qah 4 _ g 32 65 _ (.bool true) _ hg rfl kj (Qa3 [ints .u8 (key)] [#[.bool true]] [#[.int .i64 ((num:Nat):Int)]] 32 ((Qac _ _).trans hkl) 0 _ rfl) kj) <| sg 1 kj <| sgN hK6 <| cond_false kj <| wp_skip ?_
  refine hK5 _ _ <| wp_seq_k fun K7 hK7=>sgC fun K8 hK8=>sg 3 kj <| Qab (.int .i64 ((num:Nat):Int)) 22 rfl kj (Qah 3 _ g 33 65 _ (.int .i64 ((num:Nat):Int)) _ hg rfl kj (Qa3 [ints .u8 (key),#[.bool true]] [#[.int .i64 ((num:Nat):Int)]] [] 33 (by rw [Qad,Qad]; simp only [qS,cat,((Qac _ _).trans hkl)]; rfl) 0 _ rfl) kj) ?_
  refine Qab (.bool true) 23 rfl kj (Qaf (u:=.bool ((((num:Nat):Int)==4294967295))) kj (congrArg Value.bool (beq_iff_eq.2 (by omega)))) <| sgN hK8 <| cond_true kj <| sgB kj <| wp_ret ?_
  repeat (first | with_reducible refine goR1 ?_ | with_reducible refine goR2 ?_)
  exact (show bodyPost _ _ _ .ret _ _ from ret2 (.slice none 0 0) (.iface 60 (.int .i64 8)) rfl (Qa0 kj) (Qa0 kj) ⟨rfl,(Rely.Ext.refl w)⟩)
set_option maxRecDepth 100000 in
theorem QkJ (g : Nat) (key:List Int) (num:Nat) (ctx text:List Int) (v2 v3:Value) (B2 B3:Nat) (th tq:TypeId) (w:World) (hkl:key.length=32) (hh:w.heap[2]? = some (.cells (ints .u32 [1634760805,857760878,2036477234,1797285236]) th)) (hq:w.heap[3]? = some (.cells (ints .i64 [0,4,8,12,1,5,9,13,2,6,10,14,3,7,11,15,0,5,10,15,1,6,11,12,2,7,8,13,3,4,9,14]) tq)) (hg:w.heap[g]? = some (.cells (cat [ints .u8 (key),#[.bool true],#[.int .i64 ((num:Nat):Int)]]) 65)) (hxb:Qaj ctx) (hxl:ctx.length≤1048576) (hx:RdK .u8 B2 ctx v2 w) (ht:RdK .u8 B3 text v3 w) (hn:num=4294967295):Calls Tryd.prog 12 #[.pointer (some ⟨g,0,none⟩),v2,v3] w (Ret w (.tuple #[.slice none 0 0,.iface 60 (.int .i64 8)])):=by
  obtain ⟨a_c,c_c,rfl,-⟩:=id hx
  obtain ⟨a_t,c_t,rfl,-⟩:=id ht
  refine enter 19 [(0,.pointer (some ⟨g,0,none⟩)),(1,.slice a_c ctx.length c_c),(2,.slice a_t text.length c_t)] Tryd.func12 rfl rfl kj rfl <| sgB kj <| wp_seq_k fun K5 hK5=>sgB kj <| cond_false kj <| wp_skip <| hK5 _ _ <| sgC fun K7 hK7=>sg 5 kj <| Qa6 (.tuple #[.slice none 0 0,.iface 60 (.int .i64 8)]) 33 #[.pointer (some ⟨g,0,none⟩),.func (.func 34) #[] #[],.slice a_c ctx.length c_c,.slice a_t text.length c_t] 16 rfl kj kj (Qkg g key num ctx text _ _ _ _ th tq _ hkl hh hq hg hxb hxl (RdK.ext hx (Rely.Ext.refl w)) (RdK.ext ht (Rely.Ext.refl w)) hn) fun W1 e1=>?_
  refine sg 4 kj <| sgN hK7 <| wp_ret ?_
  repeat (first | with_reducible refine goR1 ?_ | with_reducible refine goR2 ?_)
  exact (show bodyPost _ _ _ .ret _ _ from ret2 (.slice none 0 0) (.iface 60 (.int .i64 8)) rfl (Qa0 kj) (Qa0 kj) ⟨rfl,(Ext.tr (Rely.Ext.refl w) e1)⟩)
set_option maxRecDepth 100000 in
theorem Qkh (g : Nat) (key:List Int) (num:Nat) (ctx sl:List Int) (v2 v3:Value) (B2 B3:Nat) (th tq:TypeId) (w:World) (hkl:key.length=32) (hh:w.heap[2]? = some (.cells (ints .u32 [1634760805,857760878,2036477234,1797285236]) th)) (hq:w.heap[3]? = some (.cells (ints .i64 [0,4,8,12,1,5,9,13,2,6,10,14,3,7,11,15,0,5,10,15,1,6,11,12,2,7,8,13,3,4,9,14]) tq)) (hg:w.heap[g]? = some (.cells (cat [ints .u8 (key),#[.bool true],#[.int .i64 ((num:Nat):Int)]]) 65)) (hxb:Qaj ctx) (hxl:ctx.length≤1048576) (hx:RdK .u8 B2 ctx v2 w) (ht:RdK .u8 B3 sl v3 w) (hn:num=4294967295):Calls Tryd.prog 33 #[.pointer (some ⟨g,0,none⟩),.func (.func 37) #[] #[],v2,v3] w (Ret w (.tuple #[.slice none 0 0,.iface 60 (.int .i64 8)])):=by
  obtain ⟨a_c,c_c,rfl,-⟩:=id hx
  obtain ⟨a_t,c_t,rfl,-⟩:=id ht
  refine enter 52 [(0,.pointer (some ⟨g,0,none⟩)),(1,.func (.func 37) #[] #[]),(2,.slice a_c ctx.length c_c),(3,.slice a_t sl.length c_t)] Tryd.func33 rfl rfl kj rfl <| sgB kj <| wp_seq_k fun K5 hK5=>sgC fun K6 hK6=>sg 3 kj <| Qab (.bool true) 15 rfl kj (Qah 4 _ g 32 65 _ (.bool true) _ hg rfl kj (Qa3 [ints .u8 (key)] [#[.bool true]] [#[.int .i64 ((num:Nat):Int)]] 32 ((Qac _ _).trans hkl) 0 _ rfl) kj) <| sg 1 kj <| sgN hK6 <| cond_false kj <| wp_skip ?_
  refine hK5 _ _ <| wp_seq_k fun K7 hK7=>sgC fun K8 hK8=>sg 3 kj <| Qab (.int .i64 ((num:Nat):Int)) 22 rfl kj (Qah 3 _ g 33 65 _ (.int .i64 ((num:Nat):Int)) _ hg rfl kj (Qa3 [ints .u8 (key),#[.bool true]] [#[.int .i64 ((num:Nat):Int)]] [] 33 (by rw [Qad,Qad]; simp only [qS,cat,((Qac _ _).trans hkl)]; rfl) 0 _ rfl) kj) ?_
  refine Qab (.bool true) 23 rfl kj (Qaf (u:=.bool ((((num:Nat):Int)==4294967295))) kj (congrArg Value.bool (beq_iff_eq.2 (by omega)))) <| sgN hK8 <| cond_true kj <| sgB kj <| wp_ret ?_
  repeat (first | with_reducible refine goR1 ?_ | with_reducible refine goR2 ?_)
  exact (show bodyPost _ _ _ .ret _ _ from ret2 (.slice none 0 0) (.iface 60 (.int .i64 8)) rfl (Qa0 kj) (Qa0 kj) ⟨rfl,(Rely.Ext.refl w)⟩)
set_option maxRecDepth 100000 in
theorem Qkm (g : Nat) (key:List Int) (num:Nat) (ctx sl:List Int) (v2 v3:Value) (B2 B3:Nat) (th tq:TypeId) (w:World) (hkl:key.length=32) (hh:w.heap[2]? = some (.cells (ints .u32 [1634760805,857760878,2036477234,1797285236]) th)) (hq:w.heap[3]? = some (.cells (ints .i64 [0,4,8,12,1,5,9,13,2,6,10,14,3,7,11,15,0,5,10,15,1,6,11,12,2,7,8,13,3,4,9,14]) tq)) (hg:w.heap[g]? = some (.cells (cat [ints .u8 (key),#[.bool true],#[.int .i64 ((num:Nat):Int)]]) 65)) (hxb:Qaj ctx) (hxl:ctx.length≤1048576) (hx:RdK .u8 B2 ctx v2 w) (ht:RdK .u8 B3 sl v3 w) (hn:num=4294967295):Calls Tryd.prog 14 #[.pointer (some ⟨g,0,none⟩),v2,v3] w (Ret w (.tuple #[.slice none 0 0,.iface 60 (.int .i64 8)])):=by
  obtain ⟨a_c,c_c,rfl,-⟩:=id hx
  obtain ⟨a_t,c_t,rfl,-⟩:=id ht
  refine enter 19 [(0,.pointer (some ⟨g,0,none⟩)),(1,.slice a_c ctx.length c_c),(2,.slice a_t sl.length c_t)] Tryd.func14 rfl rfl kj rfl <| sgB kj <| wp_seq_k fun K5 hK5=>sgB kj <| cond_false kj <| wp_skip <| hK5 _ _ <| sgC fun K7 hK7=>sg 5 kj <| Qa6 (.tuple #[.slice none 0 0,.iface 60 (.int .i64 8)]) 33 #[.pointer (some ⟨g,0,none⟩),.func (.func 37) #[] #[],.slice a_c ctx.length c_c,.slice a_t sl.length c_t] 16 rfl kj kj (Qkh g key num ctx sl _ _ _ _ th tq _ hkl hh hq hg hxb hxl (RdK.ext hx (Rely.Ext.refl w)) (RdK.ext ht (Rely.Ext.refl w)) hn) fun W1 e1=>?_
  refine sg 4 kj <| sgN hK7 <| wp_ret ?_
  repeat (first | with_reducible refine goR1 ?_ | with_reducible refine goR2 ?_)
  exact (show bodyPost _ _ _ .ret _ _ from ret2 (.slice none 0 0) (.iface 60 (.int .i64 8)) rfl (Qa0 kj) (Qa0 kj) ⟨rfl,(Ext.tr (Rely.Ext.refl w) e1)⟩)
set_option maxRecDepth 100000 in
theorem Qki (g : Nat) (key:List Int) (num:Nat) (ctx sl:List Int) (v2 v3:Value) (B2 B3:Nat) (th tq:TypeId) (w:World) (hkl:key.length=32) (hh:w.heap[2]? = some (.cells (ints .u32 [1634760805,857760878,2036477234,1797285236]) th)) (hq:w.heap[3]? = some (.cells (ints .i64 [0,4,8,12,1,5,9,13,2,6,10,14,3,7,11,15,0,5,10,15,1,6,11,12,2,7,8,13,3,4,9,14]) tq)) (hg:w.heap[g]? = some (.cells (cat [ints .u8 (key),#[.bool true],#[.int .i64 ((num:Nat):Int)]]) 65)) (hxb:Qaj ctx) (hxl:ctx.length≤1048576) (hx:RdK .u8 B2 ctx v2 w) (ht:RdK .u8 B3 sl v3 w) (hn:num<4294967295) (hO:∀ (u1 u2 u3:Value) (C1 C2 C3:Nat) (W:World),W.heap[2]? = some (.cells (ints .u32 [1634760805,857760878,2036477234,1797285236]) th)→W.heap[3]? = some (.cells (ints .i64 [0,4,8,12,1,5,9,13,2,6,10,14,3,7,11,15,0,5,10,15,1,6,11,12,2,7,8,13,3,4,9,14]) tq)→RdK .u8 C1 (nonV num) u1 W→RdK .u8 C2 ctx u2 W→RdK .u8 C3 sl u3 W→Calls Tryd.prog 37 #[.agg (ints .u8 key),u1,u2,u3] W (Ret W (.tuple #[.slice none 0 0,.iface 60 (.int .i64 2)]))):Calls Tryd.prog 33 #[.pointer (some ⟨g,0,none⟩),.func (.func 37) #[] #[],v2,v3] w (Ret w (.tuple #[.slice none 0 0,.iface 60 (.int .i64 2)])):=by
 obtain ⟨a_c,c_c,rfl,-⟩:=id hx
 obtain ⟨a_t,c_t,rfl,-⟩:=id ht
 refine enter 52 [(0,.pointer (some ⟨g,0,none⟩)),(1,.func (.func 37) #[] #[]),(2,.slice a_c ctx.length c_c),(3,.slice a_t sl.length c_t)] Tryd.func33 rfl rfl kj rfl <| sgB kj <| wp_seq_k fun K5 hK5=>sgC fun K6 hK6=>sg 3 kj <| Qab (.bool true) 15 rfl kj (Qah 4 _ g 32 65 _ (.bool true) _ hg rfl kj (Qa3 [ints .u8 (key)] [#[.bool true]] [#[.int .i64 ((num:Nat):Int)]] 32 ((Qac _ _).trans hkl) 0 _ rfl) kj) <| sg 1 kj <| sgN hK6 <| cond_false kj <| wp_skip ?_
 refine hK5 _ _ <| wp_seq_k fun K7 hK7=>sgC fun K8 hK8=>sg 3 kj <| Qab (.int .i64 ((num:Nat):Int)) 22 rfl kj (Qah 3 _ g 33 65 _ (.int .i64 ((num:Nat):Int)) _ hg rfl kj (Qa3 [ints .u8 (key),#[.bool true]] [#[.int .i64 ((num:Nat):Int)]] [] 33 (by rw [Qad,Qad]; simp only [qS,cat,((Qac _ _).trans hkl)]; rfl) 0 _ rfl) kj) ?_
 refine Qab (.bool false) 23 rfl kj (Qaf (u:=.bool ((((num:Nat):Int)==4294967295))) kj (congrArg Value.bool (beq_eq_false_iff_ne.2 (by omega)))) <| sgN hK8 <| cond_false kj <| wp_skip <| hK7 _ _ <| wp_seq_k fun K9 hK9=>QaD 17 [⟨none,[(1,none)]⟩,⟨none,[(0,none)]⟩,⟨none,[(27,some 1)]⟩,⟨none,[(28,some 2)]⟩,⟨none,[(29,some 3)]⟩,⟨none,[(0,none)]⟩,⟨none,[(31,some 5)]⟩,⟨none,[(32,some 6)]⟩,⟨none,[(33,some 7)]⟩,⟨none,[(34,some 8)]⟩,⟨none,[(2,none)]⟩,⟨none,[(3,none)]⟩,⟨none,[(26,some 0),(30,some 4),(35,some 9),(36,some 10),(37,some 11)]⟩,⟨none,[(38,some 12)]⟩,⟨none,[(25,some 13)]⟩,⟨none,[(25,some 13)]⟩,⟨none,[(39,some 14)]⟩] kj kj fun F hF=>Qar (Qag _) (.func (.func 37) #[] #[]) kj kj (fun W=>by kernel_rfl) <| Qar (Qag _) (.pointer (some ⟨g,0,none⟩)) kj kj (fun W=>by kernel_rfl) <| Qar (Qag _) (.pointer (some ⟨g,0,none⟩)) kj kj (fun W=>by kernel_rfl) ?_
 refine Qar (Qag _) (.pointer (some ⟨g,0,none⟩)) kj kj (fun W=>by kernel_rfl) <| QaR (Qag _) (.agg (ints .u8 (key))) kj kj (fun W hR=>(QaL 23 _ g 0 65 _ _ _ (Qaa (Qaa hg (Qak _)) hR) rfl kj (Qa3 [] [ints .u8 (key)] [#[.bool true],#[.int .i64 ((num:Nat):Int)]] 0 kj) kj (isz (n:=32) kj ((Qac _ _).trans hkl)))) <| Qar (Qag _) (.pointer (some ⟨g,0,none⟩)) kj kj (fun W=>by kernel_rfl) <| Qar (Qag _) (.pointer (some ⟨g,0,none⟩)) kj kj (fun W=>by kernel_rfl) <| Qar (Qag _) (.pointer (some ⟨g,33,none⟩)) kj kj (fun W=>by kernel_rfl) <| QaR (Qag _) (.int .i64 ((num:Nat):Int)) kj kj (fun W hR=>(Qah 3 _ g 33 65 _ (.int .i64 ((num:Nat):Int)) _ (Qaa (Qaa hg (Qak _)) hR) rfl kj (Qa3 [ints .u8 (key),#[.bool true]] [#[.int .i64 ((num:Nat):Int)]] [] 33 (by rw [Qad,Qad]; simp only [qS,cat,((Qac _ _).trans hkl)]; rfl) 0 _ rfl) kj)) ?_
 refine Qcv (Qag _) (OwnN .u8 5 w.heap.size (nonV num)) (OwnN.stable _ _ _ _) 46 #[.int .i64 ((num:Nat):Int)] kj kj (fun W=>by kernel_rfl) (fun W hR=>(QgT w.heap.size num _ (Rely.Ext.trans (Qak _) hR).size)) <| Qar (Qag _) (.slice a_c ctx.length c_c) kj kj (fun W=>by kernel_rfl) <| Qar (Qag _) (.slice a_t sl.length c_t) kj kj (fun W=>by kernel_rfl) <| Qdc (Qag _) (fun v W=>∃ u,v=.tuple #[u,.iface 60 (.int .i64 2)]∧u=.slice none 0 0) (fun _ _ _ _ h=>h) 37 (fun ρ W hR hX=>?_) ?_
 ·skip
  have e30_:ρ 30=.agg (ints .u8 (key)):=hX.2.1
  have q35_:(OwnN .u8 5 w.heap.size (nonV num)) (ρ 35) W:=hX.2.2.1
  obtain ⟨ar35,cr35,e35_,-⟩:=id (OwnN.rd q35_)
  have rd35_:=OwnN.rd q35_
  rw [e35_] at rd35_
  have e36_:ρ 36=.slice a_c ctx.length c_c:=hX.2.2.2.1
  have e37_:ρ 37=.slice a_t sl.length c_t:=hX.2.2.2.2.1
  have e26_:ρ 26=.func (.func 37) #[] #[]:=hX.1
  refine ⟨#[.agg (ints .u8 (key)),.slice ar35 ((nonV num).length) cr35,.slice a_c ctx.length c_c,.slice a_t sl.length c_t],Qfu (ρ':=fun t=>if t=26 then ρ 26 else if t=30 then ρ 30 else if t=35 then ρ 35 else if t=36 then ρ 36 else if t=37 then ρ 37 else ρ t) kj ?_,?_⟩
  ·rw [e26_,e30_,e35_,e36_,e37_]; kernel_rfl
  exact ((hO _ _ _ _ _ _ W (Qaa (Qaa hh (Qak _)) hR) (Qaa (Qaa hq (Qak _)) hR) rd35_ (RdK.ext (RdK.ext hx (Rely.Ext.refl w)) (Rely.Ext.trans (Qak _) hR)) (RdK.ext (RdK.ext ht (Rely.Ext.refl w)) (Rely.Ext.trans (Qak _) hR))).mono fun e W2 hg=>⟨_,hg.1,hg.2,_,rfl,rfl⟩)
 refine Qbr (Qag _) (fun v W=>∃ u,v=.tuple #[u,.iface 60 (.int .i64 2)]∧u=.slice none 0 0) (fun _ _ _ _ h=>h) (fun ρ W hR hh=>⟨ρ 38,W,by kernel_rfl,Rely.Ext.refl _,(show (fun v W=>∃ u,v=.tuple #[u,.iface 60 (.int .i64 2)]∧u=.slice none 0 0) (ρ 38) W from hh.1)⟩) <| Qbr (Qag _) (fun v W=>v=.slice none 0 0) (fun _ _ _ _ h=>h) (fun ρ W hR hh=>?_) ?_
 ·obtain ⟨u,e,h⟩:=(show (fun v W=>∃ u,v=.tuple #[u,.iface 60 (.int .i64 2)]∧u=.slice none 0 0) (ρ 25) W from hh.1)
  exact ⟨_,W,QaW (.tmp 25) 0 #[u,.iface 60 (.int .i64 2)] _ rfl e rfl,Rely.Ext.refl _,h⟩
 refine Qbr (Qag _) (fun v W=>v=.iface 60 (.int .i64 2)) (fun _ _ _ _ h=>h) (fun ρ W hR hh=>?_) ?_
 ·obtain ⟨u,e,h⟩:=(show (fun v W=>∃ u,v=.tuple #[u,.iface 60 (.int .i64 2)]∧u=.slice none 0 0) (ρ 25) W from hh.1)
  exact ⟨_,W,QaW (.tmp 25) 1 #[u,.iface 60 (.int .i64 2)] _ rfl e rfl,Rely.Ext.refl _,rfl⟩
 refine Qbr (Qag _) (fun v W=>v=.slice none 0 0) (fun _ _ _ _ h=>h) (fun ρ W hR hh=>⟨ρ 39,W,by kernel_rfl,Rely.Ext.refl _,(show (fun v W=>v=.slice none 0 0) (ρ 39) W from hh.1)⟩) <| QbN (hF _ fun W1 e1=>?_)
 simp only [List.nil_append,List.cons_append,List.take_succ_cons,List.take_zero,List.drop_succ_cons,List.drop_zero,finE,up]
 intro vv10 hv10 vv11 hv11 vv12 hv12 vv13 hv13 vv14 hv14 vv15 hv15
 clear hF
 obtain ⟨a16_,c16_,rfl,-⟩:=id (OwnN.rd hv10)
 subst hv13
 subst hv14
 subst hv15
 refine sg 1 kj <| sgN hK9 <| wp_seq_k fun K17 hK17=>sgB kj <| cond_true kj <| sgB kj <| wp_ret ?_
 repeat (first | with_reducible refine goR1 ?_ | with_reducible refine goR2 ?_)
 exact (show bodyPost _ _ _ .ret _ _ from ret2 (.slice none 0 0) (.iface 60 (.int .i64 2)) rfl (Qa0 kj) (Qa0 kj) ⟨rfl,(Ext.tr (Rely.Ext.refl w) e1)⟩)
set_option maxRecDepth 100000 in
theorem QhP (g : Nat) (key:List Int) (num:Nat) (ctx sl:List Int) (v2 v3:Value) (B2 B3:Nat) (th tq:TypeId) (w:World) (hkl:key.length=32) (hh:w.heap[2]? = some (.cells (ints .u32 [1634760805,857760878,2036477234,1797285236]) th)) (hq:w.heap[3]? = some (.cells (ints .i64 [0,4,8,12,1,5,9,13,2,6,10,14,3,7,11,15,0,5,10,15,1,6,11,12,2,7,8,13,3,4,9,14]) tq)) (hg:w.heap[g]? = some (.cells (cat [ints .u8 (key),#[.bool true],#[.int .i64 ((num:Nat):Int)]]) 65)) (hxb:Qaj ctx) (hxl:ctx.length≤1048576) (hx:RdK .u8 B2 ctx v2 w) (ht:RdK .u8 B3 sl v3 w) (hn:num<4294967295) (hO:∀ (u1 u2 u3:Value) (C1 C2 C3:Nat) (W:World),W.heap[2]? = some (.cells (ints .u32 [1634760805,857760878,2036477234,1797285236]) th)→W.heap[3]? = some (.cells (ints .i64 [0,4,8,12,1,5,9,13,2,6,10,14,3,7,11,15,0,5,10,15,1,6,11,12,2,7,8,13,3,4,9,14]) tq)→RdK .u8 C1 (nonV num) u1 W→RdK .u8 C2 ctx u2 W→RdK .u8 C3 sl u3 W→Calls Tryd.prog 37 #[.agg (ints .u8 key),u1,u2,u3] W (Ret W (.tuple #[.slice none 0 0,.iface 60 (.int .i64 2)]))):Calls Tryd.prog 14 #[.pointer (some ⟨g,0,none⟩),v2,v3] w (Ret w (.tuple #[.slice none 0 0,.iface 60 (.int .i64 2)])):=by
  obtain ⟨a_c,c_c,rfl,-⟩:=id hx
  obtain ⟨a_t,c_t,rfl,-⟩:=id ht
  refine enter 19 [(0,.pointer (some ⟨g,0,none⟩)),(1,.slice a_c ctx.length c_c),(2,.slice a_t sl.length c_t)] Tryd.func14 rfl rfl kj rfl <| sgB kj <| wp_seq_k fun K5 hK5=>sgB kj <| cond_false kj <| wp_skip <| hK5 _ _ <| sgC fun K7 hK7=>sg 5 kj <| Qa6 (.tuple #[.slice none 0 0,.iface 60 (.int .i64 2)]) 33 #[.pointer (some ⟨g,0,none⟩),.func (.func 37) #[] #[],.slice a_c ctx.length c_c,.slice a_t sl.length c_t] 16 rfl kj kj (Qki g key num ctx sl _ _ _ _ th tq _ hkl hh hq hg hxb hxl (RdK.ext hx (Rely.Ext.refl w)) (RdK.ext ht (Rely.Ext.refl w)) hn hO) fun W1 e1=>?_
  refine sg 4 kj <| sgN hK7 <| wp_ret ?_
  repeat (first | with_reducible refine goR1 ?_ | with_reducible refine goR2 ?_)
  exact (show bodyPost _ _ _ .ret _ _ from ret2 (.slice none 0 0) (.iface 60 (.int .i64 2)) rfl (Qa0 kj) (Qa0 kj) ⟨rfl,(Ext.tr (Rely.Ext.refl w) e1)⟩)
set_option maxRecDepth 100000 in
theorem Qkj (g : Nat) (key:List Int) (num:Nat) (ctx sl:List Int) (v2 v3:Value) (B2 B3:Nat) (th tq:TypeId) (w:World) (hkl:key.length=32) (hh:w.heap[2]? = some (.cells (ints .u32 [1634760805,857760878,2036477234,1797285236]) th)) (hq:w.heap[3]? = some (.cells (ints .i64 [0,4,8,12,1,5,9,13,2,6,10,14,3,7,11,15,0,5,10,15,1,6,11,12,2,7,8,13,3,4,9,14]) tq)) (hg:w.heap[g]? = some (.cells (cat [ints .u8 (key),#[.bool true],#[.int .i64 ((num:Nat):Int)]]) 65)) (hxb:Qaj ctx) (hxl:ctx.length≤1048576) (hx:RdK .u8 B2 ctx v2 w) (ht:RdK .u8 B3 sl v3 w) (hn:num<4294967295) (fs:List Int) (htb:Qaj sl) (htl:sl.length≤1048592) (hsh:16≤sl.length) (hne:Qb7 key (nonV num) ctx (sl.take (sl.length-16))=sl.drop (sl.length-16)) (es:mixV (QaO key (nonV num)) 1 (sl.take (sl.length-16))=fs):Calls Tryd.prog 33 #[.pointer (some ⟨g,0,none⟩),.func (.func 37) #[] #[],v2,v3] w (fun e W=>∃ u,e=.returned (.tuple #[u,.nilIface])∧OwnN .u8 5 w.heap.size (fs) u W∧ExtB g w W∧W.heap[g]? = some (.cells (cat [ints .u8 (key),#[.bool true],#[.int .i64 ((num+1:Nat):Int)]]) 65)):=by
 obtain ⟨a_c,c_c,rfl,-⟩:=id hx
 obtain ⟨a_t,c_t,rfl,-⟩:=id ht
 refine enter 52 [(0,.pointer (some ⟨g,0,none⟩)),(1,.func (.func 37) #[] #[]),(2,.slice a_c ctx.length c_c),(3,.slice a_t sl.length c_t)] Tryd.func33 rfl rfl kj rfl <| sgB kj <| wp_seq_k fun K5 hK5=>sgC fun K6 hK6=>sg 3 kj <| Qab (.bool true) 15 rfl kj (Qah 4 _ g 32 65 _ (.bool true) _ hg rfl kj (Qa3 [ints .u8 (key)] [#[.bool true]] [#[.int .i64 ((num:Nat):Int)]] 32 ((Qac _ _).trans hkl) 0 _ rfl) kj) <| sg 1 kj <| sgN hK6 <| cond_false kj <| wp_skip ?_
 refine hK5 _ _ <| wp_seq_k fun K7 hK7=>sgC fun K8 hK8=>sg 3 kj <| Qab (.int .i64 ((num:Nat):Int)) 22 rfl kj (Qah 3 _ g 33 65 _ (.int .i64 ((num:Nat):Int)) _ hg rfl kj (Qa3 [ints .u8 (key),#[.bool true]] [#[.int .i64 ((num:Nat):Int)]] [] 33 (by rw [Qad,Qad]; simp only [qS,cat,((Qac _ _).trans hkl)]; rfl) 0 _ rfl) kj) ?_
 refine Qab (.bool false) 23 rfl kj (Qaf (u:=.bool ((((num:Nat):Int)==4294967295))) kj (congrArg Value.bool (beq_eq_false_iff_ne.2 (by omega)))) <| sgN hK8 <| cond_false kj <| wp_skip <| hK7 _ _ <| wp_seq_k fun K9 hK9=>QaD 17 [⟨none,[(1,none)]⟩,⟨none,[(0,none)]⟩,⟨none,[(27,some 1)]⟩,⟨none,[(28,some 2)]⟩,⟨none,[(29,some 3)]⟩,⟨none,[(0,none)]⟩,⟨none,[(31,some 5)]⟩,⟨none,[(32,some 6)]⟩,⟨none,[(33,some 7)]⟩,⟨none,[(34,some 8)]⟩,⟨none,[(2,none)]⟩,⟨none,[(3,none)]⟩,⟨none,[(26,some 0),(30,some 4),(35,some 9),(36,some 10),(37,some 11)]⟩,⟨none,[(38,some 12)]⟩,⟨none,[(25,some 13)]⟩,⟨none,[(25,some 13)]⟩,⟨none,[(39,some 14)]⟩] kj kj fun F hF=>Qar (Qag _) (.func (.func 37) #[] #[]) kj kj (fun W=>by kernel_rfl) <| Qar (Qag _) (.pointer (some ⟨g,0,none⟩)) kj kj (fun W=>by kernel_rfl) <| Qar (Qag _) (.pointer (some ⟨g,0,none⟩)) kj kj (fun W=>by kernel_rfl) ?_
 refine Qar (Qag _) (.pointer (some ⟨g,0,none⟩)) kj kj (fun W=>by kernel_rfl) <| QaR (Qag _) (.agg (ints .u8 (key))) kj kj (fun W hR=>(QaL 23 _ g 0 65 _ _ _ (Qaa (Qaa hg (Qak _)) hR) rfl kj (Qa3 [] [ints .u8 (key)] [#[.bool true],#[.int .i64 ((num:Nat):Int)]] 0 kj) kj (isz (n:=32) kj ((Qac _ _).trans hkl)))) <| Qar (Qag _) (.pointer (some ⟨g,0,none⟩)) kj kj (fun W=>by kernel_rfl) <| Qar (Qag _) (.pointer (some ⟨g,0,none⟩)) kj kj (fun W=>by kernel_rfl) <| Qar (Qag _) (.pointer (some ⟨g,33,none⟩)) kj kj (fun W=>by kernel_rfl) <| QaR (Qag _) (.int .i64 ((num:Nat):Int)) kj kj (fun W hR=>(Qah 3 _ g 33 65 _ (.int .i64 ((num:Nat):Int)) _ (Qaa (Qaa hg (Qak _)) hR) rfl kj (Qa3 [ints .u8 (key),#[.bool true]] [#[.int .i64 ((num:Nat):Int)]] [] 33 (by rw [Qad,Qad]; simp only [qS,cat,((Qac _ _).trans hkl)]; rfl) 0 _ rfl) kj)) ?_
 refine Qcv (Qag _) (OwnN .u8 5 w.heap.size (nonV num)) (OwnN.stable _ _ _ _) 46 #[.int .i64 ((num:Nat):Int)] kj kj (fun W=>by kernel_rfl) (fun W hR=>(QgT w.heap.size num _ (Rely.Ext.trans (Qak _) hR).size)) <| Qar (Qag _) (.slice a_c ctx.length c_c) kj kj (fun W=>by kernel_rfl) <| Qar (Qag _) (.slice a_t sl.length c_t) kj kj (fun W=>by kernel_rfl) <| Qdc (Qag _) (MixR w.heap.size fs) (Qcj _ _) 37 (fun ρ W hR hX=>?_) ?_
 ·skip
  have e30_:ρ 30=.agg (ints .u8 (key)):=hX.2.1
  have q35_:(OwnN .u8 5 w.heap.size (nonV num)) (ρ 35) W:=hX.2.2.1
  obtain ⟨ar35,cr35,e35_,-⟩:=id (OwnN.rd q35_)
  have rd35_:=OwnN.rd q35_
  rw [e35_] at rd35_
  have e36_:ρ 36=.slice a_c ctx.length c_c:=hX.2.2.2.1
  have e37_:ρ 37=.slice a_t sl.length c_t:=hX.2.2.2.2.1
  have e26_:ρ 26=.func (.func 37) #[] #[]:=hX.1
  refine ⟨#[.agg (ints .u8 (key)),.slice ar35 ((nonV num).length) cr35,.slice a_c ctx.length c_c,.slice a_t sl.length c_t],Qfu (ρ':=fun t=>if t=26 then ρ 26 else if t=30 then ρ 30 else if t=35 then ρ 35 else if t=36 then ρ 36 else if t=37 then ρ 37 else ρ t) kj ?_,?_⟩
  ·rw [e26_,e30_,e35_,e36_,e37_]; kernel_rfl
  exact ((Qlt key (nonV num) ctx sl _ _ _ _ _ _ th tq W (Qaa (Qaa hh (Qak _)) hR) (Qaa (Qaa hq (Qak _)) hR) hkl rd35_ (RdK.ext (RdK.ext hx (Rely.Ext.refl w)) (Rely.Ext.trans (Qak _) hR)) (RdK.ext (RdK.ext ht (Rely.Ext.refl w)) (Rely.Ext.trans (Qak _) hR)) hxb htb (QcB _) (by omega) (by omega) hsh hne).mono fun e W2 hg=>by obtain ⟨v2,e1,e2,u,e3,e4⟩:=hg; rw [es] at e4; exact ⟨v2,e1,e2,u,e3,e4.base (Rely.Ext.trans (Qak _) hR).size⟩)
 refine Qbr (Qag _) (MixR w.heap.size fs) (Qcj _ _) (fun ρ W hR hh=>⟨ρ 38,W,by kernel_rfl,Rely.Ext.refl _,(show (MixR w.heap.size fs) (ρ 38) W from hh.1)⟩) <| Qbr (Qag _) (OwnN .u8 5 w.heap.size fs) (OwnN.stable _ _ _ _) (fun ρ W hR hh=>?_) ?_
 ·obtain ⟨u,e,h⟩:=(show (MixR w.heap.size fs) (ρ 25) W from hh.1)
  exact ⟨_,W,QaW (.tmp 25) 0 #[u,.nilIface] _ rfl e rfl,Rely.Ext.refl _,h⟩
 refine Qbr (Qag _) (fun v W=>v=.nilIface) (fun _ _ _ _ h=>h) (fun ρ W hR hh=>?_) ?_
 ·obtain ⟨u,e,h⟩:=(show (MixR w.heap.size fs) (ρ 25) W from hh.1)
  exact ⟨_,W,QaW (.tmp 25) 1 #[u,.nilIface] _ rfl e rfl,Rely.Ext.refl _,rfl⟩
 refine Qbr (Qag _) (OwnN .u8 5 w.heap.size fs) (OwnN.stable _ _ _ _) (fun ρ W hR hh=>⟨ρ 39,W,by kernel_rfl,Rely.Ext.refl _,(show (OwnN .u8 5 w.heap.size fs) (ρ 39) W from hh.1)⟩) <| QbN (hF _ fun W1 e1=>?_)
 simp only [List.nil_append,List.cons_append,List.take_succ_cons,List.take_zero,List.drop_succ_cons,List.drop_zero,finE,up]
 intro vv10 hv10 vv11 hv11 vv12 hv12 vv13 hv13 vv14 hv14 vv15 hv15
 clear hF
 obtain ⟨a16_,c16_,rfl,-⟩:=id (OwnN.rd hv10)
 obtain ⟨a17_,c17_,rfl,-⟩:=id (OwnN.rd hv13)
 subst hv14
 obtain ⟨a18_,c18_,rfl,-⟩:=id (OwnN.rd hv15)
 refine sg 1 kj <| sgN hK9 <| wp_seq_k fun K19 hK19=>sgB kj <| cond_false kj <| wp_skip <| hK19 _ _ <| sgC fun K21 hK21=>sg 3 kj ?_
 have r3_1:=(Qaa hg e1)
 refine Qab (.int .i64 ((num:Nat):Int)) 47 rfl kj (Qah 3 _ g 33 65 _ (.int .i64 ((num:Nat):Int)) _ r3_1 rfl kj (Qa3 [ints .u8 (key),#[.bool true]] [#[.int .i64 ((num:Nat):Int)]] [] 33 (by rw [Qad,Qad]; simp only [qS,cat,((Qac _ _).trans hkl)]; rfl) 0 _ rfl) kj) ?_
 refine Qab (.int .i64 ((num+1:Nat):Int)) 48 rfl kj (Qaf (u:=.int .i64 (IntKind.i64.wrap (((num:Nat):Int)+1))) kj (congrArg (Value.int .i64) (i64n _ _ (by omega) (by omega)))) <| sg 2 kj ?_
 have xb1:=ExtB.ext (ExtB.refl g w) (Ext.tr (Rely.Ext.refl w) e1)
 refine Qal g _ (cat [ints .u8 (key),#[.bool true],#[.int .i64 ((num+1:Nat):Int)]]) 65 r3_1 rfl kj (run_storeQ 3 _ _ g 33 65 [ints .u8 (key),#[.bool true]] [] _ (.int .i64 ((num+1:Nat):Int)) r3_1 rfl kj kj kj (by rw [Qad,Qad]; simp only [qS,cat,((Qac _ _).trans hkl)]; rfl) rfl rfl) fun W2 p2 r3_2=>?_
 refine sgN hK21 <| sgB kj <| wp_ret ?_
 repeat (first | with_reducible refine goR1 ?_ | with_reducible refine goR2 ?_)
 exact (show bodyPost _ _ _ .ret _ _ from ret2 (.slice a18_ ((fs).length) c18_) (.nilIface) rfl (Qa0 kj) (Qa0 kj) ⟨_,rfl,OwnN.base (Rely.Ext.refl w).size (hv15.puts p2 (Qbe hv15 (Qau hg))),(ExtB.puts xb1 p2),r3_2⟩)
set_option maxRecDepth 100000 in
theorem Qkn (g : Nat) (key:List Int) (num:Nat) (ctx sl:List Int) (v2 v3:Value) (B2 B3:Nat) (th tq:TypeId) (w:World) (hkl:key.length=32) (hh:w.heap[2]? = some (.cells (ints .u32 [1634760805,857760878,2036477234,1797285236]) th)) (hq:w.heap[3]? = some (.cells (ints .i64 [0,4,8,12,1,5,9,13,2,6,10,14,3,7,11,15,0,5,10,15,1,6,11,12,2,7,8,13,3,4,9,14]) tq)) (hg:w.heap[g]? = some (.cells (cat [ints .u8 (key),#[.bool true],#[.int .i64 ((num:Nat):Int)]]) 65)) (hxb:Qaj ctx) (hxl:ctx.length≤1048576) (hx:RdK .u8 B2 ctx v2 w) (ht:RdK .u8 B3 sl v3 w) (hn:num<4294967295) (fs:List Int) (htb:Qaj sl) (htl:sl.length≤1048592) (hsh:16≤sl.length) (hne:Qb7 key (nonV num) ctx (sl.take (sl.length-16))=sl.drop (sl.length-16)) (es:mixV (QaO key (nonV num)) 1 (sl.take (sl.length-16))=fs):Calls Tryd.prog 14 #[.pointer (some ⟨g,0,none⟩),v2,v3] w (fun e W=>∃ u,e=.returned (.tuple #[u,.nilIface])∧OwnN .u8 5 w.heap.size (fs) u W∧ExtB g w W∧W.heap[g]? = some (.cells (cat [ints .u8 (key),#[.bool true],#[.int .i64 ((num+1:Nat):Int)]]) 65)):=by
  obtain ⟨a_c,c_c,rfl,-⟩:=id hx
  obtain ⟨a_t,c_t,rfl,-⟩:=id ht
  refine enter 19 [(0,.pointer (some ⟨g,0,none⟩)),(1,.slice a_c ctx.length c_c),(2,.slice a_t sl.length c_t)] Tryd.func14 rfl rfl kj rfl <| sgB kj <| wp_seq_k fun K5 hK5=>sgB kj <| cond_false kj <| wp_skip <| hK5 _ _ <| sgC fun K7 hK7=>sg 5 kj ?_
  have xb0:=ExtB.ext (ExtB.refl g w) (Rely.Ext.refl w)
  refine Qat (fun v W'=>∃ u,v=.tuple #[u,.nilIface]∧OwnN .u8 5 w.heap.size (fs) u W'∧ExtB g w W'∧W'.heap[g]? = some (.cells (cat [ints .u8 (key),#[.bool true],#[.int .i64 ((num+1:Nat):Int)]]) 65)) 33 #[.pointer (some ⟨g,0,none⟩),.func (.func 37) #[] #[],.slice a_c ctx.length c_c,.slice a_t sl.length c_t] 16 rfl kj kj ((Qkj g key num ctx sl _ _ _ _ th tq _ hkl hh hq hg hxb hxl (RdK.ext hx (Rely.Ext.refl w)) (RdK.ext ht (Rely.Ext.refl w)) hn fs htb htl hsh hne es).mono (by rintro e w' ⟨u,rfl,h1,h2,h3⟩; exact ⟨_,rfl,u,rfl,h1,h2,h3⟩)) fun v W1 h8=>?_
  obtain ⟨u8_,rfl,hu8_,q1,r3_1⟩:=h8
  obtain ⟨a8_,c8_,rfl,-⟩:=id (OwnN.rd hu8_)
  refine sg 4 kj <| sgN hK7 <| wp_ret ?_
  repeat (first | with_reducible refine goR1 ?_ | with_reducible refine goR2 ?_)
  exact (show bodyPost _ _ _ .ret _ _ from ret2 (.slice a8_ ((fs).length) c8_) (.nilIface) rfl (Qa0 kj) (Qa0 kj) ⟨_,rfl,OwnN.base xb0.2.2.2.1 hu8_,(ExtB.trans xb0 q1),r3_1⟩)
end Go.Proofs.YtophlgnnjjkkiaaDoor.Ci
end
section
namespace Go.Proofs.YtophlgnnjjkkiaaDoor.Ci
open Go Go.RowKit
open Rely Auto Own Sha Sha
open Cha
open Ae hiding run_storeQ bytes_app
open Ll hiding run_storeQ
theorem numV (n : Int) (w:World):Calls Tryd.prog 16 #[errV n] w (Ret w (.int .i64 n)):=by
  by_cases h:n=0
  · subst h; rw [QkN rfl]; exact numZ w
  · rw [Qmk h]; exact numE n h w
theorem Qgm (key : List Int) (num:Nat) (ctx text:List Int) (hkl:key.length=32) (hkb:Qaj key) (hnum:num≤4294967295) (hxb:Qaj ctx) (hxl:ctx.length≤1048576) (htb:Qaj text) (htl:text.length≤1048576) :
    ∃ (out:List Int) (bad:Int) (n2:Nat),Qaj out∧out.length≤text.length+16∧n2≤4294967295∧(∀ (g:Nat) (v2 v3:Value) (B2 B3:Nat) (th tq:TypeId) (w:World),w.heap[2]? = some (.cells (ints .u32 [1634760805,857760878,2036477234,1797285236]) th)→w.heap[3]? = some (.cells (ints .i64 [0,4,8,12,1,5,9,13,2,6,10,14,3,7,11,15,0,5,10,15,1,6,11,12,2,7,8,13,3,4,9,14]) tq)→w.heap[g]? = some (.cells (cat [ints .u8 (key),#[.bool true],#[.int .i64 ((num:Nat):Int)]]) 65)→RdK .u8 B2 ctx v2 w→RdK .u8 B3 text v3 w→Calls Tryd.prog 12 #[.pointer (some ⟨g,0,none⟩),v2,v3] w (fun e W=>∃ u,e=.returned (.tuple #[u,errV bad])∧OwnN .u8 5 w.heap.size out u W∧ExtB g w W∧W.heap[g]? = some (.cells (cat [ints .u8 (key),#[.bool true],#[.int .i64 ((n2:Nat):Int)]]) 65)))∧(∀ (chain hash:List Int) (v2 v3:Value) (B2 B3:Nat) (w:World),chain.length=32→hash.length=32→RdK .u8 B2 ctx v2 w→RdK .u8 B3 text v3 w→Calls Tryd.prog 13 #[.agg (cat [ints .u8 (chain),ints .u8 (hash),#[.bool true],ints .u8 (key),#[.int .i64 ((num:Nat):Int)]]),v2,v3] w (Qb8 w (fun v W=>∃ u,v=.tuple #[u,.agg (cat [ints .u8 (chain),ints .u8 (hash),#[.bool true],ints .u8 (key),#[.int .i64 ((n2:Nat):Int)]]),.int .i64 bad]∧OwnN .u8 5 w.heap.size out u W))):=by
  by_cases hn:num=4294967295
  · refine ⟨[],8,num,(fun x hx=>by cases hx),Nat.zero_le _,hnum,fun g v2 v3 B2 B3 th tq w hh hq hg hx ht=>(QkJ g key num ctx text v2 v3 B2 B3 th tq w hkl hh hq hg hxb hxl hx ht hn).mono fun e W hr=>⟨_,hr.1,Qbz .u8 5 _ _,ExtB.ext (ExtB.refl g w) hr.2,Qaa hg hr.2⟩,fun chain hash v2 v3 B2 B3 w hcl hhl hx ht=>QlC key chain hash num ctx text v2 v3 B2 B3 w hkl hcl hhl hkb hxb hxl hx ht hn⟩
  have hn:num<4294967295:=by omega
  obtain ⟨fs,es⟩:∃ z,QcC key (nonV num) ctx text=z:=⟨_,rfl⟩
  refine ⟨fs,0,num+1,es▸Qeg _ _ _ _,(by rw [←es,Qdl]; omega),hn,fun g v2 v3 B2 B3 th tq w hh hq hg hx ht=>(QmR g key num ctx text fs es v2 v3 B2 B3 th tq w hkl hh hq hg hn hxb hxl htl hx ht).mono fun e W ⟨u,h1,h2,h3,h4⟩=>⟨u,h1,h2,h3,h4⟩,fun chain hash v2 v3 B2 B3 w hcl hhl hx ht=>QlD key chain hash num ctx text v2 v3 B2 B3 w hkl hcl hhl hkb hxb hxl hx ht hn fs es htl⟩
theorem QfV (key : List Int) (num:Nat) (ctx sl:List Int) (hkl:key.length=32) (hkb:Qaj key) (hnum:num≤4294967295) (hxb:Qaj ctx) (hxl:ctx.length≤1048576) (htb:Qaj sl) (htl:sl.length≤1048576) :
    ∃ (out:List Int) (bad:Int) (n2:Nat),Qaj out∧out.length≤sl.length+16∧n2≤4294967295∧(∀ (g:Nat) (v2 v3:Value) (B2 B3:Nat) (th tq:TypeId) (w:World),w.heap[2]? = some (.cells (ints .u32 [1634760805,857760878,2036477234,1797285236]) th)→w.heap[3]? = some (.cells (ints .i64 [0,4,8,12,1,5,9,13,2,6,10,14,3,7,11,15,0,5,10,15,1,6,11,12,2,7,8,13,3,4,9,14]) tq)→w.heap[g]? = some (.cells (cat [ints .u8 (key),#[.bool true],#[.int .i64 ((num:Nat):Int)]]) 65)→RdK .u8 B2 ctx v2 w→RdK .u8 B3 sl v3 w→Calls Tryd.prog 14 #[.pointer (some ⟨g,0,none⟩),v2,v3] w (fun e W=>∃ u,e=.returned (.tuple #[u,errV bad])∧OwnN .u8 5 w.heap.size out u W∧ExtB g w W∧W.heap[g]? = some (.cells (cat [ints .u8 (key),#[.bool true],#[.int .i64 ((n2:Nat):Int)]]) 65)))∧(∀ (chain hash:List Int) (v2 v3:Value) (B2 B3:Nat) (w:World),chain.length=32→hash.length=32→RdK .u8 B2 ctx v2 w→RdK .u8 B3 sl v3 w→Calls Tryd.prog 15 #[.agg (cat [ints .u8 (chain),ints .u8 (hash),#[.bool true],ints .u8 (key),#[.int .i64 ((num:Nat):Int)]]),v2,v3] w (Qb8 w (fun v W=>∃ u,v=.tuple #[u,.agg (cat [ints .u8 (chain),ints .u8 (hash),#[.bool true],ints .u8 (key),#[.int .i64 ((n2:Nat):Int)]]),.int .i64 bad]∧OwnN .u8 5 w.heap.size out u W))):=by
  by_cases hn:num=4294967295
  · refine ⟨[],8,num,(fun x hx=>by cases hx),Nat.zero_le _,hnum,fun g v2 v3 B2 B3 th tq w hh hq hg hx ht=>(Qkm g key num ctx sl v2 v3 B2 B3 th tq w hkl hh hq hg hxb hxl hx ht hn).mono fun e W hr=>⟨_,hr.1,Qbz .u8 5 _ _,ExtB.ext (ExtB.refl g w) hr.2,Qaa hg hr.2⟩,fun chain hash v2 v3 B2 B3 w hcl hhl hx ht=>Ql6 key chain hash num ctx sl v2 v3 B2 B3 w hkl hcl hhl hkb hxb hxl hx ht hn⟩
  have hn:num<4294967295:=by omega
  by_cases hsh:sl.length<16
  · refine ⟨[],2,num,(fun x hx=>by cases hx),Nat.zero_le _,hnum,fun g v2 v3 B2 B3 th tq w hh hq hg hx ht=>(QhP g key num ctx sl v2 v3 B2 B3 th tq w hkl hh hq hg hxb hxl hx ht hn (fun u1 u2 u3 C1 C2 C3 W hh hq a b c=>Qna key (nonV num) ctx sl u1 u2 u3 C1 C2 C3 th tq W hh hq hkl a b c hxb htb (QcB _) (by omega) (by omega) hsh)).mono fun e W hr=>⟨_,hr.1,Qbz .u8 5 _ _,ExtB.ext (ExtB.refl g w) hr.2,Qaa hg hr.2⟩,fun chain hash v2 v3 B2 B3 w hcl hhl hx ht=>Qjp key chain hash num ctx sl v2 v3 B2 B3 w hkl hcl hhl hkb hxb hxl hx ht hn (fun u1 u2 u3 C1 C2 C3 W a b c=>Ql9 key (nonV num) ctx sl u1 u2 u3 C1 C2 C3 W hkl hkb (QdX _) a b c hxb htb (QcB _) (by omega) (by omega) hsh)⟩
  have hsh:16≤sl.length:=by omega
  by_cases hne:Qb7 key (nonV num) ctx (sl.take (sl.length-16))=sl.drop (sl.length-16)
  · obtain ⟨fs,es⟩:∃ z,mixV (QaO key (nonV num)) 1 (sl.take (sl.length-16))=z:=⟨_,rfl⟩
    refine ⟨fs,0,num+1,es▸QdY _ _ _,(by rw [←es,QbZ,List.length_take]; omega),hn,fun g v2 v3 B2 B3 th tq w hh hq hg hx ht=>(Qkn g key num ctx sl v2 v3 B2 B3 th tq w hkl hh hq hg hxb hxl hx ht hn fs htb (by omega) hsh hne es).mono fun e W ⟨u,h1,h2,h3,h4⟩=>⟨u,h1,h2,h3,h4⟩,fun chain hash v2 v3 B2 B3 w hcl hhl hx ht=>Ql7 key chain hash num ctx sl v2 v3 B2 B3 w hkl hcl hhl hkb hxb hxl hx ht hn fs htb (by omega) hsh hne es⟩
  · refine ⟨[],2,num,(fun x hx=>by cases hx),Nat.zero_le _,hnum,fun g v2 v3 B2 B3 th tq w hh hq hg hx ht=>(QhP g key num ctx sl v2 v3 B2 B3 th tq w hkl hh hq hg hxb hxl hx ht hn (fun u1 u2 u3 C1 C2 C3 W hh hq a b c=>Qnb key (nonV num) ctx sl u1 u2 u3 C1 C2 C3 th tq W hh hq hkl a b c hxb htb (QcB _) (by omega) (by omega) hsh hne)).mono fun e W hr=>⟨_,hr.1,Qbz .u8 5 _ _,ExtB.ext (ExtB.refl g w) hr.2,Qaa hg hr.2⟩,fun chain hash v2 v3 B2 B3 w hcl hhl hx ht=>Qjp key chain hash num ctx sl v2 v3 B2 B3 w hkl hcl hhl hkb hxb hxl hx ht hn (fun u1 u2 u3 C1 C2 C3 W a b c=>QlA key (nonV num) ctx sl u1 u2 u3 C1 C2 C3 W hkl hkb (QdX _) a b c hxb htb (QcB _) (by omega) (by omega) hsh hne)⟩
end Go.Proofs.YtophlgnnjjkkiaaDoor.Ci
end
section
namespace Go.Proofs.YtophlgnnjjkkiaaDoor.Ci
open Go Go.RowKit
open Rely Auto Own Sha Sha
open Cha
open Ae hiding run_storeQ
open Ll hiding run_storeQ
theorem QmZ : nth (dig (dig [110,97,109,101]++QcC (twB (hmac (dig [110,97,109,101]) [1])) (nonV 0) (dig [110,97,109,101]) [116,101,120,116])) 0≠0:=by decide +kernel
theorem Qfz (l : List Int) (h:(l.all fun x=>decide (0≤x)&&decide (x≤255))=true):Qaj l:=fun x hx=>by
  have:=List.all_eq_true.1 h x hx
  simpa using this
set_option maxRecDepth 100000 in
theorem Qgq (th tq tsc tsq:TypeId) (w:World) (hh:w.heap[2]? = some (.cells (ints .u32 [1634760805,857760878,2036477234,1797285236]) th)) (hq:w.heap[3]? = some (.cells (ints .i64 [0,4,8,12,1,5,9,13,2,6,10,14,3,7,11,15,0,5,10,15,1,6,11,12,2,7,8,13,3,4,9,14]) tq)) (hsc:w.heap[1]? = some (.cells (ints .u64 Qb4) tsc)) (hsq:w.heap[0]? = some (.cells (ints .u64 QaV) tsq)):Calls Tryd.prog 6 #[] w (Ret w (.bool true)):=by
  have hnb:Qaj [110,97,109,101]:=Qfz _ (by decide)
  have htb:Qaj [116,101,120,116]:=Qfz _ (by decide)
  have h1b:Qaj [1]:=Qfz _ (by decide)
  have hA:=QmZ
  obtain ⟨ch,ech⟩:∃ z,z=dig [110,97,109,101]:=⟨_,rfl⟩
  have hchl:ch.length=32:=by rw [ech]; exact Qbl _
  have hchb:Qaj ch:=by rw [ech]; exact Qfx _
  rw [←ech] at hA
  obtain ⟨k1,ek1⟩:∃ z,z=twB (hmac ch [1]):=⟨_,rfl⟩
  obtain ⟨c1,ec1⟩:∃ z,z=twA (hmac ch [1]):=⟨_,rfl⟩
  have hk1:k1.length=32:=by rw [ek1]; exact Qef _
  have hc1:c1.length=32:=by rw [ec1]; exact Qe2 _
  rw [←ek1] at hA
  have lfs0:=Qdl k1 (nonV 0) ch [116,101,120,116]
  have hfb0:=Qeg k1 (nonV 0) ch [116,101,120,116]
  obtain ⟨fs,es⟩:∃ z:List Int,QcC k1 (nonV 0) ch [116,101,120,116]=z:=⟨_,rfl⟩
  rw [es] at hA lfs0 hfb0
  have lfs:fs.length=List.length [116,101,120,116]+16:=lfs0
  have hfb:Qaj fs:=hfb0
  have hne:dig (ch++fs)≠List.replicate 32 0:=fun e=>hA (by rw [e]; rfl)
  refine enter 54 [] Tryd.func6 rfl rfl kj rfl <| sgB kj <| sgC fun K6 hK6=>Qat (fun v W'=>(BegL w.heap.size ([110,97,109,101])) v W'∧Ext w W') 21 #[.string ⟨#[110,97,109,101]⟩] 6 rfl kj kj ((Qlr _ ([110,97,109,101]) rfl hnb (by decide) tsc tsq _ hsc hsq).mono (by rintro e w' ⟨v,rfl,e1,hv⟩; exact ⟨v,rfl,hv,e1⟩)) fun vv7 W1 hh7=>?_
  obtain ⟨hv7,e1⟩:=hh7
  have x1:=Ext.tr (Rely.Ext.refl w) e1
  obtain ⟨gs8,rfl,ls8,rs8⟩:=hv7
  have bs8:=qT (Rely.Ext.refl w).size ls8
  rw [←ech] at rs8
  have r3_1:=(Qaa hsc e1)
  have r4_1:=(Qaa hsq e1)
  refine Qat (fun v W'=>(BegL W1.heap.size ([110,97,109,101])) v W'∧Ext W1 W') 21 #[.string ⟨#[110,97,109,101]⟩] 7 rfl kj kj ((Qlr _ ([110,97,109,101]) rfl hnb (by decide) tsc tsq _ r3_1 r4_1).mono (by rintro e w' ⟨v,rfl,e1,hv⟩; exact ⟨v,rfl,hv,e1⟩)) fun vv9 W2 hh9=>?_
  obtain ⟨hv9,e2⟩:=hh9
  have x2:=Ext.tr x1 e2
  obtain ⟨gs10,rfl,ls10,rs10⟩:=hv9
  have bs10:=qT x1.size ls10
  rw [←ech] at rs10
  refine sg 2 kj <| sgN hK6 <| sgC fun K11 hK11=>sg 1 kj <| Qa7 (ints .u8 ([1])) 5 1 9 rfl kj kj fun g12 W3 l12 e3 r12_3=>?_
  have b12:=qT x2.size l12
  have r3_3:=(Qaa (Qaa r3_1 e2) e3)
  have r4_3:=(Qaa (Qaa r4_1 e2) e3)
  refine Qat (fun v W'=>v=.tuple #[]∧ExtB gs8 W3 W'∧W'.heap[gs8]? = some (.cells (cat [ints .u8 (k1),#[.bool true],#[.int .i64 ((0:Nat):Int)],ints .u8 (c1),ints .u8 (ch)]) 74)) 23 #[.pointer (some ⟨gs8,0,none⟩),.slice (some ⟨g12,0,none⟩) 1 1] 10 rfl kj kj ((QfH gs8 (List.replicate 32 0) ch ch false 0 [1] _ _ tsc tsq _ (List.length_replicate (n:=32)) hchl hchl hchb h1b (by decide) r3_3 r4_3 (Qaa (Qaa rs8 e2) e3) (QaI (xs:=[1]) (n:=1) rfl r12_3 (Qau r12_3) (show 1≤maxLen from by decide))).mono (by intro e w' h; exact ⟨_,h.1,rfl,h.2.1,(by rw [ek1,ec1]; exact h.2.2)⟩)) fun v W4 h13=>?_
  obtain ⟨rfl,q4,r8_4⟩:=h13
  have x4:=ExtB.up (Ext.tr x2 e3) q4 bs8
  refine sgN hK11 <| sgC fun K14 hK14=>sg 1 kj <| Qa7 (ints .u8 ([1])) 5 1 12 rfl kj kj fun g15 W5 l15 e5 r15_5=>?_
  have b15:=qT x4.size l15
  have r3_5:=(Qaa (ExtB.row q4 r3_3 (Qae hsc ls8)) e5)
  have r4_5:=(Qaa (ExtB.row q4 r4_3 (Qae hsq ls8)) e5)
  refine Qat (fun v W'=>v=.tuple #[]∧ExtB gs10 W5 W'∧W'.heap[gs10]? = some (.cells (cat [ints .u8 (k1),#[.bool true],#[.int .i64 ((0:Nat):Int)],ints .u8 (c1),ints .u8 (ch)]) 74)) 23 #[.pointer (some ⟨gs10,0,none⟩),.slice (some ⟨g15,0,none⟩) 1 1] 13 rfl kj kj ((QfH gs10 (List.replicate 32 0) ch ch false 0 [1] _ _ tsc tsq _ (List.length_replicate (n:=32)) hchl hchl hchb h1b (by decide) r3_5 r4_5 (Qaa (ExtB.row q4 (Qaa rs10 e3) (Qa2 rs8 ls10)) e5) (QaI (xs:=[1]) (n:=1) rfl r15_5 (Qau r15_5) (show 1≤maxLen from by decide))).mono (by intro e w' h; exact ⟨_,h.1,rfl,h.2.1,(by rw [ek1,ec1]; exact h.2.2)⟩)) fun v W6 h16=>?_
  obtain ⟨rfl,q6,r10_6⟩:=h16
  have x6:=ExtB.up (Ext.tr x4 e5) q6 bs10
  refine sgN hK14 <| sgC fun K17 hK17=>sg 1 kj <| Qa7 (ints .u8 ([116,101,120,116])) 5 4 16 rfl kj kj fun g18 W7 l18 e7 r18_7=>Qg9 (xs:=[116,101,120,116]) 33 5 (.tmp 16) 17 rfl rfl kj kj kj kj rfl (show 4≤maxLen by decide) r18_7 fun W8 p8 r18_8 rd19=>?_
  have r2_1:=(Qaa hh e1)
  have r2_6:=(ExtB.row q6 (Qaa (ExtB.row q4 (Qaa (Qaa r2_1 e2) e3) (Qae hh ls8)) e5) (Qae r2_1 ls10))
  have r2_8:=(Puts.row p8 (Qaa r2_6 e7) (Qae r2_6 l18))
  have r1_1:=(Qaa hq e1)
  have r1_6:=(ExtB.row q6 (Qaa (ExtB.row q4 (Qaa (Qaa r1_1 e2) e3) (Qae hq ls8)) e5) (Qae r1_1 ls10))
  have r1_8:=(Puts.row p8 (Qaa r1_6 e7) (Qae r1_6 l18))
  have r3_6:=(ExtB.row q6 r3_5 (Qae r3_1 ls10))
  have r3_8:=(Puts.row p8 (Qaa r3_6 e7) (Qae r3_6 l18))
  have r4_6:=(ExtB.row q6 r4_5 (Qae r4_1 ls10))
  have r4_8:=(Puts.row p8 (Qaa r4_6 e7) (Qae r4_6 l18))
  have r8_6:=(ExtB.row q6 (Qaa r8_4 e5) (Qae rs8 ls10))
  refine Qat (fun v W'=>∃ u,v=.tuple #[u,.nilIface]∧OwnN .u8 5 W8.heap.size (fs) u W'∧ExtB gs8 W8 W'∧W'.heap[gs8]? = some (.cells (cat [ints .u8 (k1),#[.bool true],#[.int .i64 ((0+1:Nat):Int)],ints .u8 (c1),ints .u8 (dig (ch++fs))]) 74)) 24 #[.pointer (some ⟨gs8,0,none⟩),.slice (some ⟨g18,0,none⟩) 4 4] 18 rfl kj kj ((Qnz gs8 k1 c1 ch 0 [116,101,120,116] fs es _ _ th tq tsc tsq _ hk1 hc1 hchl hchb r2_8 r1_8 r3_8 r4_8 (Qae hh ls8) (Qae hq ls8) (Qae hsc ls8) (Qae hsq ls8) (Puts.row p8 (Qaa r8_6 e7) (Qae r8_6 l18)) (by decide) hfb lfs (by decide) rd19).mono (by rintro e w' ⟨u,rfl,h1,h2,h3⟩; exact ⟨_,rfl,u,rfl,h1,h2,h3⟩)) fun v W9 h20=>?_
  obtain ⟨u20_,rfl,hu20_,q9,r8_9⟩:=h20
  obtain ⟨a20_,c20_,rfl,-⟩:=id (OwnN.rd hu20_)
  refine sg 5 kj <| sgN hK17 <| wp_seq_k fun K21 hK21=>sgC fun K22 hK22=>sg 5 kj <| Qab (.bool false) 26 rfl kj (Qaf (u:=.bool (((((fs).length:Nat):Int) != 20))) kj (congrArg Value.bool (bne_eq_false_iff_eq.2 (by rw [lfs]; rfl)))) ?_
  refine sg 1 kj <| sgN hK22 <| cond_false kj <| wp_skip <| hK21 _ _ <| sgC fun K23 hK23=>sg 2 kj ?_
  have r10_8:=(Puts.row p8 (Qaa r10_6 e7) (Qae r10_6 l18))
  refine Qat (fun v W'=>∃ u,v=.tuple #[u,.nilIface]∧OwnN .u8 5 W9.heap.size ([116,101,120,116]) u W'∧ExtB gs10 W9 W'∧W'.heap[gs10]? = some (.cells (cat [ints .u8 (k1),#[.bool true],#[.int .i64 ((0+1:Nat):Int)],ints .u8 (c1),ints .u8 (dig (ch++fs))]) 74)) 25 #[.pointer (some ⟨gs10,0,none⟩),.slice a20_ ((fs).length) c20_] 31 rfl kj kj ((Qnp gs10 k1 c1 ch 0 [116,101,120,116] fs es _ th tq tsc tsq _ hk1 hc1 hchl hchb (ExtB.row q9 r2_8 (Qae hh ls8)) (ExtB.row q9 r1_8 (Qae hq ls8)) (ExtB.row q9 r3_8 (Qae hsc ls8)) (ExtB.row q9 r4_8 (Qae hsq ls8)) (Qae r2_1 ls10) (Qae r1_1 ls10) (Qae r3_1 ls10) (Qae r4_1 ls10) (ExtB.row q9 r10_8 (Qa2 rs8 ls10)) (by decide) hfb lfs htb (by decide) (fun W e=>OwnN.rd (QbY hu20_ e (Qbe hu20_ (Qau r10_8))))).mono (by rintro e w' ⟨u,rfl,h1,h2,h3⟩; exact ⟨_,rfl,u,rfl,h1,h2,h3⟩)) fun v W10 h24=>?_
  obtain ⟨u24_,rfl,hu24_,q10,r10_10⟩:=h24
  obtain ⟨a24_,c24_,rfl,-⟩:=id (OwnN.rd hu24_)
  refine sg 5 kj <| sgN hK23 <| sgC fun K25 hK25=>sg 4 kj <| Qab (.string (Qc5 [116,101,120,116])) 38 rfl kj (Qc1 (.tmp 37) (.slice a24_ (([116,101,120,116]).length) c24_) rfl rfl [116,101,120,116] (RdK.bytes (OwnN.rd hu24_) htb)) <| sg 4 kj ?_
  have r8_10:=(ExtB.row q10 r8_9 (Qae rs8 ls10))
  refine Qa6 (.agg (ints .u8 (dig (ch++fs)))) 26 #[.pointer (some ⟨gs8,0,none⟩)] 43 rfl kj kj (Qmg gs8 k1 c1 (dig (ch++fs)) true ((0+1:Nat):Int) _ hk1 hc1 (Qbl _) r8_10) fun W11 e11=>sg 1 kj <| Qa6 (.agg (ints .u8 (dig (ch++fs)))) 26 #[.pointer (some ⟨gs10,0,none⟩)] 45 rfl kj kj (Qmg gs10 k1 c1 (dig (ch++fs)) true ((0+1:Nat):Int) _ hk1 hc1 (Qbl _) (Qaa r10_10 e11)) fun W12 e12=>Qab (.bool true) 46 rfl kj (Qho 29 _ _ _ _ _ (.bool true) rfl kj kj kj (QjU 29 (e:=5) (k:=.u8) (dig (ch++fs)) (dig (ch++fs)) (decide_eq_true rfl) (Qbl _) (Qbl _) kj kj kj _)) <| sg 3 kj <| Qa6 (.agg (ints .u8 (dig (ch++fs)))) 26 #[.pointer (some ⟨gs8,0,none⟩)] 50 rfl kj kj (Qmg gs8 k1 c1 (dig (ch++fs)) true ((0+1:Nat):Int) _ hk1 hc1 (Qbl _) (Qaa (Qaa r8_10 e11) e12)) fun W13 e13=>sg 1 kj <| Qab (.bool true) 52 rfl kj (Qhm 29 _ _ _ _ _ (.bool true) rfl kj kj kj (Qj1 29 (e:=5) (k:=.u8) (dig (ch++fs)) (List.replicate 32 0) (decide_eq_false hne) (Qbl _) (List.length_replicate (n:=32)) kj kj kj _)) <| sg 2 kj <| sgN hK25 ?_
  refine wp_ret ?_
  repeat (first | with_reducible refine goR1 ?_ | with_reducible refine goR2 ?_)
  exact (show bodyPost _ _ _ .ret _ _ from ret1 (.bool true) rfl (Qa0 kj) ⟨rfl,(Ext.tr (Ext.tr (Ext.tr (ExtB.up (ExtB.up (Puts.ext p8 (Ext.tr x6 e7) (qT x6.size l18)) q9 bs8) q10 bs10) e11) e12) e13)⟩)
end Go.Proofs.YtophlgnnjjkkiaaDoor.Ci
end
section
namespace Go.Proofs.YtophlgnnjjkkiaaDoor.Ci
open Go Go.RowKit
open Rely Auto Own Sha Sha
open Cha
open Ae hiding run_storeQ
open Ll hiding run_storeQ
open Wk
end Go.Proofs.YtophlgnnjjkkiaaDoor.Ci
end
section
namespace Go.Proofs.YtophlgnnjjkkiaaDoor.Auto
open Go Go.RowKit Go.WideShapes
open Rely
section
variable {H : Type} {enc : TypeId × Value → H} {P : Program} {W w : World} {r : Reach} {base b0 : Nat} {sp : Nat → Bool} {held : Bool}
end
end Go.Proofs.YtophlgnnjjkkiaaDoor.Auto
end
section
namespace Go.Proofs.YtophlgnnjjkkiaaDoor.Auto
open Go Go.RowKit
open Rely
theorem Qei {P : Program} {w:World}:∀ (laid:List (String×DataW Unit)) (ps:List MemPlace) (n:String) (d:DataW Unit),DataW.LaidVars P w laid ps→(n,d)∈laid →
    ∃ g t cs fuel p,P.globalNamed n=some g∧(P.globals[g]?).map (·.type)=some t∧w.var? P n=some cs∧DataW.trod (fun _=>()) P w 0 (fun _=>true) false fuel t cs.toList=some (d,p)∧∀ x∈MemPlace.row ⟨g,0,none⟩ cs.size,x∈ps
  | [],_,_,_,_,h=>by cases h
  | (n0,d0)::r,ps,n,d,⟨g,t,cs,fuel,p,q,h1,h2,h3,h4,h5,h6⟩,h=>by
    subst h6
    rcases List.mem_cons.1 h with h | h
    · cases h
      exact ⟨g,t,cs,fuel,p,h1,h2,h3,h4,fun x hx=>List.mem_append_left _ (List.mem_append_left _ hx)⟩
    · obtain ⟨g',t',cs',fuel',p',a,b,c,e,f⟩:=Qei r q n d h5 h
      exact ⟨g',t',cs',fuel',p',a,b,c,e,fun x hx=>List.mem_append_right _ (f x hx)⟩
theorem Qgl {P : Program} {w:World} {laid:List (String×DataW Unit)} {n:String} {k:IntKind} {zs:List Int} {g:Nat} {t e:TypeId} {m:Nat} (h:laidMet P laid w) (hm:(n,Lib.tabData k zs)∈laid)
    (hg:P.globalNamed n=some g) (hty:(P.globals[g]?).map (·.type)=some t) (ht:P.underlying t=some (.array m e)) (he:P.underlying e=some (.int k)) (hce:P.cellsOf e=1) (hct:P.cellsOf t=m) (h0:0<zs.length) :
    ∃ t,w.heap[g]? = some (.cells (ints k zs) t):=by
  obtain ⟨ps,hL,-,hC⟩:=h
  obtain ⟨g',t',cs,fuel,p,hg',ht',hvar,hd,hin⟩:=Qei _ _ _ _ hL hm
  obtain rfl:=Option.some.inj (hg.symm.trans hg')
  obtain rfl:=Option.some.inj (hty.symm.trans ht')
  have hcs:=Lib.cells_of_tab ht he hce hct hd
  have hsz:0<cs.size:=by rw [←Array.length_toList,hcs,List.length_map]; exact h0
  obtain ⟨⟨c,t2,hc⟩,-⟩:=hC g 0 (hin _ (List.mem_map.2 ⟨0,List.mem_range.2 hsz,rfl⟩))
  unfold World.var? at hvar
  rw [hg] at hvar
  simp only [Option.bind_some,hc,Option.some.injEq] at hvar
  subst hvar
  refine ⟨t2,hc.trans ?_⟩
  rw [show c=ints k zs from by rw [ints,←hcs]]
theorem QkT {bs : List Int} (h:∀ n∈bs,(Lit.int .u8 n).wf=true):Qaj bs:=fun n hn=>by
  have:=h n hn
  simpa [Lit.wf,IntKind.min,IntKind.max,IntKind.signed,IntKind.bits] using this
end Go.Proofs.YtophlgnnjjkkiaaDoor.Auto
end
section
namespace Go.Proofs.YtophlgnnjjkkiaaDoor.Auto
open Go Go.RowKit Go.WideShapes Go.ChangeShapes Go.ChangeAt
open Rely Go.Deep
section
variable {H : Type} {enc : TypeId × Value → H} {P : Program} {w : World} {b0 : Nat} {held : Bool}
structure OpV where
  kind:Int
  a:Option Addr
  c:Nat
  xs:List Int
  n:Int
def OpAt (w : World) (gT oT i:Nat) (o:OpV):Prop :=
  w.cell? ⟨gT,oT+i*3,none⟩=some (.int .i64 o.kind)∧w.cell? ⟨gT,oT+i*3+1,none⟩=some (.slice o.a o.xs.length o.c)∧w.cell? ⟨gT,oT+i*3+2,none⟩=some (.int .i64 o.n) ∧
    RdK .u8 w.heap.size o.xs (.slice o.a o.xs.length o.c) w∧Qaj o.xs∧(Lit.int .i64 o.kind).wf=true∧(Lit.int .i64 o.n).wf=true
theorem Qmq (x : Addr) (i j:Nat):(x.add i).add j=x.add (i+j):=by
  by_cases hi:i=0 <;> by_cases hj:j=0 <;> simp [Addr.add,hi,hj,Nat.add_assoc]
theorem open_ops {t s e:TypeId} {f0 f1 f2:Field} {ad:Option Addr} {len cap:Nat} {d:DataW H} {p:List MemPlace} (hs:P.underlying t=some (.slice s)) (hss:P.underlying s=some (.struct #[f0,f1,f2])) (ho:f0.offset=0∧f1.offset=1∧f2.offset=2)
    (h0:P.underlying f0.type=some (.int .i64)) (h1:P.underlying f1.type=some (.slice e)) (h2:P.underlying f2.type=some (.int .i64)) (hc:P.cellsOf f0.type=1∧P.cellsOf f1.type=1∧P.cellsOf f2.type=1)
    (he:P.underlying e=some (.int .u8)) (hce:P.cellsOf e=1) (hcs:P.cellsOf s=3)
    (h:DataW.Trod enc P w b0 (fun _=>true) held t (.slice ad len cap) d p) :
    ∃ gT oT:Nat,(0<len→ad=some ⟨gT,oT,none⟩∧gT<w.heap.size)∧∀ i,i<len→∃ o,OpAt w gT oT i o:=by
  obtain ⟨fuel,hf⟩:=h
  rcases DataW.trod_slice hs hf with ⟨hcs',-⟩ | ⟨x,l,c,elems,rest,n,-,hcs',-,hb,hl,hmx,hlen,hel,-,-⟩
  · simp [Value.cells] at hcs'
    obtain ⟨rfl,rfl,rfl⟩:=hcs'
    exact ⟨0,0,fun h=>absurd h (by omega),fun i hi=>absurd hi (by omega)⟩
  · simp [Value.cells] at hcs'
    obtain ⟨rfl,rfl,rfl⟩:=hcs'
    have key:∀ i,i<len→∃ o:OpV,w.cell? (x.add (i*3))=some (.int .i64 o.kind)∧w.cell? (x.add (i*3+1))=some (.slice o.a o.xs.length o.c)∧w.cell? (x.add (i*3+2))=some (.int .i64 o.n) ∧
        RdK .u8 w.heap.size o.xs (.slice o.a o.xs.length o.c) w∧Qaj o.xs∧(Lit.int .i64 o.kind).wf=true∧(Lit.int .i64 o.n).wf=true:=fun i hi=>by
      have h4:=hel i hi
      rw [hcs,List.getElem?_eq_getElem (by omega)] at h4
      obtain ⟨cs,hc1,hc2⟩:=Option.bind_eq_some_iff.1 h4
      obtain ⟨hn,q1,q2⟩:=World.cells?_some hc1
      obtain ⟨y0,y1,y2,m,-,hl3,t0,t1,t2⟩:=trod_struct3 hss hc2
      rw [ho.1,hc.1] at t0
      rw [ho.2.1,hc.2.1] at t1
      rw [ho.2.2,hc.2.2] at t2
      rw [hcs] at hl3
      have p0:=q2 0 (by omega)
      have p1:=q2 1 (by omega)
      have p2:=q2 2 (by omega)
      rw [Qmq] at p0 p1 p2
      obtain ⟨z0,e0,-,w0⟩:=DataW.trod_int h0 t0
      obtain ⟨z2,e2,-,w2⟩:=DataW.trod_int h2 t2
      match cs,hl3 with
      | [c0,c1,c2],_ =>
        simp only [List.drop_zero,List.drop_succ_cons,List.take_succ_cons,List.take_zero,List.cons.injEq,and_true] at e0 e2
        subst e0; subst e2
        simp only [List.drop_succ_cons,List.drop_zero,List.take_succ_cons,List.take_zero] at t1
        rcases open_ints h1 he hce t1 with ⟨hcv,-⟩ | ⟨y,l,cc,zs,hcv,-,hl2,hm2,hz2,-,hcell,hwz⟩
        · simp only [List.cons.injEq,and_true] at hcv
          subst hcv
          exact ⟨⟨z0,none,0,[],z2⟩,p0,p1,p2,⟨none,0,rfl,qR _,Nat.zero_le _,fun _=>rfl,.inl rfl⟩,(fun x hx=>by cases hx),w0,w2⟩
        · simp only [List.cons.injEq,and_true] at hcv
          subst hcv
          obtain ⟨r,rl,rf⟩:=QiE (k:=.u8) (w:=w) (a:=some y) (len:=l) (cap:=cc) (zs:=zs) (.inr ⟨y,rfl,hl2,hm2,by simpa using hz2,hcell,hwz⟩)
          refine ⟨⟨z0,some y,cc,zs.take l,z2⟩,p0,?_,p2,?_,QkT rf,w0,w2⟩
          · show _=some (Value.slice (some y) (zs.take l).length cc)
            rw [rl]; exact p1
          · show RdK .u8 w.heap.size (zs.take l) (.slice (some y) (zs.take l).length cc) w
            rw [rl]; exact r
    rcases Nat.eq_zero_or_pos len with h0' | h0'
    · exact ⟨0,0,fun h=>absurd h (by omega),fun i hi=>absurd hi (by omega)⟩
    obtain ⟨b,off,spot⟩:=x
    have hspot:spot=none:=by
      obtain ⟨_,hq,-⟩:=key 0 h0'
      simpa [Addr.add] using World.cell?_spot hq
    subst hspot
    obtain ⟨_,hq0,-⟩:=key 0 h0'
    rw [WideShapes.add_plain,Nat.zero_mul,Nat.add_zero] at hq0
    refine ⟨b,off,fun _=>⟨rfl,QdZ hq0⟩,fun i hi=>?_⟩
    obtain ⟨o,k1,k2,k3,k4⟩:=key i hi
    rw [WideShapes.add_plain] at k1 k2 k3
    exact ⟨o,k1,by rw [Nat.add_assoc]; exact k2,by rw [Nat.add_assoc]; exact k3,k4⟩
end
end Go.Proofs.YtophlgnnjjkkiaaDoor.Auto
end
section
namespace Go.Proofs.YtophlgnnjjkkiaaDoor.Ci
open Go Go.RowKit
open Rely Auto Own Sha Sha
open Cha
open Ae hiding run_storeQ
open Ll hiding run_storeQ
theorem Qhn {P : Program} {ρ:Operand→Value} {o:Oper} {w:World} (t:TypeId) (x y:Operand) (k:IntKind) (n g off len cap:Nat) (e:TypeId) (sz:Nat) (ho:o.op=.indexAddr t x y) (hx:ρ x=.slice (some ⟨g,off,none⟩) len cap) (hy:ρ y=.int k n)
    (hu:P.underlying t=some (.slice e)) (hs:(P.info? e).map (·.size)=some sz) (hn:n<len):(execOp ρ o).run P w=.ok (.value (.pointer (some ⟨g,off+n*sz,none⟩))) w:=by
  cases hq:P.info? e with
  | none=>simp [hq] at hs
  | some i =>
    have hs':i.size=sz:=by simpa [hq] using hs
    have hadd:(⟨g,off,none⟩:Addr).add (n*sz)=⟨g,off+n*sz,none⟩:=by unfold Addr.add; split <;> simp_all
    have h0:(0:Int)≤(n:Int):=by omega
    have h1:(n:Int)<(len:Int):=by omega
    unfold execOp
    simp only [ho,hx,hy]
    simp [Instr.indexAt,asIntOf,run_underlying hu,sizeOf,typeInfo,hq,hs',h0,hn,hadd]
theorem Qhp {w : World} {g k:Nat} {v:Value} (h:w.cell? ⟨g,k,none⟩=some v):∃ cs t fr,w.heap[g]? = some (.cells cs t fr):=by
  unfold World.cell? at h
  split at h
  · next c t f e=>exact ⟨c,t,f,e⟩
  · cases h
theorem QdR {P : Program} {ρ:Operand→Value} {o:Oper} {w:World} (t:TypeId) (x y:Operand) (k:IntKind) (n g off len cap:Nat) (e:TypeId) (sz:Nat) (ad:Option Addr) (ha:ad=some ⟨g,off,none⟩) (ho:o.op=.indexAddr t x y) (hx:ρ x=.slice ad len cap) (hy:ρ y=.int k n)
    (hu:P.underlying t=some (.slice e)) (hs:(P.info? e).map (·.size)=some sz) (hn:n<len):(execOp ρ o).run P w=.ok (.value (.pointer (some ⟨g,off+n*sz,none⟩))) w:=by
  subst ha
  exact Qhn t x y k n g off len cap e sz ho hx hy hu hs hn
theorem OpAt.ext {w W:World} {gT oT i:Nat} {o:OpV} (h:OpAt w gT oT i o) (e:Ext w W):OpAt W gT oT i o:=by
  obtain ⟨h1,h2,h3,h4,h5⟩:=h
  have hb:∀ {k:Nat} {v:Value},w.cell? ⟨gT,k,none⟩=some v→W.cell? ⟨gT,k,none⟩=some v:=fun h=>by
    rw [←h]; exact World.cell?_of_block (e.block gT (QdZ h))
  exact ⟨hb h1,hb h2,hb h3,RdK.here (h4.ext e),h5⟩
theorem OpAt.rd {w : World} {gT oT i:Nat} {o:OpV} (h:OpAt w gT oT i o):RdK .u8 w.heap.size o.xs (.slice o.a o.xs.length o.c) w:=h.2.2.2.1
theorem OpAt.bytes {w : World} {gT oT i:Nat} {o:OpV} (h:OpAt w gT oT i o):Qaj o.xs:=h.2.2.2.2.1
theorem Qd2 {P : Program} {ρ:Operand→Value} {o:Oper} {w:World} (ty:TypeId) (x:Operand) (g oT i:Nat) (v:OpV) (h:OpAt w g oT i v)
    (ho:o.op=.load ty x) (hx:ρ x=.pointer (some ⟨g,oT+i*3,none⟩)) (hu:aggD P ty=some true) (hi:(P.info? ty).map (·.size)=some 3):(execOp ρ o).run P w=.ok (.value (.agg (cat [#[.int .i64 v.kind],#[.slice v.a v.xs.length v.c],#[.int .i64 v.n]]))) w:=by
  obtain ⟨h1,h2,h3,-⟩:=h
  obtain ⟨cs,t,fr,hg⟩:=Qhp h1
  have c:∀ {k:Nat} {u:Value},w.cell? ⟨g,k,none⟩=some u→cs[k]? = some u:=fun h=>by
    unfold World.cell? at h
    simp only [hg] at h
    rw [←h]; rfl
  refine QaL ty x g (oT+i*3) t cs _ fr hg ho hx (fun j u hv=>?_) hu (by rw [hi]; rfl)
  rcases j with _ | _ | _ | j
  · have e:some (Value.int .i64 v.kind)=some u:=hv
    rw [←e]; exact c h1
  · have e:some (Value.slice v.a v.xs.length v.c)=some u:=hv
    rw [←e]; exact c h2
  · have e:some (Value.int .i64 v.n)=some u:=hv
    rw [←e]; exact c h3
  · simp [cat] at hv
theorem Qll (len cap gT oT:Nat) (ad:Option Addr) (ops:Nat→OpV) (w:World) (had:0<len→ad=some ⟨gT,oT,none⟩) (hops:∀ i,i<len→OpAt w gT oT i (ops i)):Calls Tryd.prog 7 #[.slice ad len cap] w (fun e W=>∃ b,e=.returned (.bool b)∧Ext w W∧(b=false→∀ i,i<len→i≤60∧(ops i).xs.length≤500)∧(b=true→¬ ∀ i,i<len→i≤60∧(ops i).xs.length≤500)):=by
 refine enter 21 [(0,.slice ad len cap)] Tryd.func7 rfl rfl kj rfl <| sgB kj <| wp_seq_k fun K2 hK2=>sgB kj <| wp_block <| Qa5 (fun (s1:Nat)=>[(5,.slice ad len cap),(6,.int .i64 ((len:Nat):Int)),(7,.int .i64 ((s1:Nat):Int))]) (fun (s1:Nat) W=>(s1≤len)∧(∀ j,j<s1→j≤60∧(ops j).xs.length≤500)∧(Ext w W)∧(Ext w W)) (fun (s1:Nat)=>len-s1) 0 ⟨kj,kj,kj,trivial⟩ ⟨(Nat.zero_le _),(fun j hj=>absurd hj (Nat.not_lt_zero j)),(Rely.Ext.refl w),(Rely.Ext.refl w)⟩ fun s1 X1 V1 hI1=>?_
 obtain ⟨i,hs1⟩:∃ z,z=s1:=⟨_,rfl⟩
 subst hs1
 obtain ⟨hi,hsm,kk1,xx1⟩:=hI1
 replace hi:i≤len:=hi
 replace hsm:∀ j,j<i→j≤60∧(ops j).xs.length≤500:=hsm
 replace kk1:Ext w V1:=kk1
 replace xx1:Ext w V1:=xx1
 have e1:=kk1
 refine sgB kj <| wp_seq_k fun K5 hK5=>Qay (t:=decide (((i:Nat):Int)<((len:Nat):Int))) kj (fun c6=>?_) (fun c6=>?_)
 ·skip
  have hlt:i<len:=by have:=of_decide_eq_true c6; omega
  obtain ⟨op,hopE⟩:∃ z,z=ops i:=⟨_,rfl⟩
  have hop:OpAt w gT oT i op:=hopE▸hops i hlt
  refine wp_skip <| hK5 _ _ <| wp_seq_k fun K7 hK7=>wp_block <| sgC fun K8 hK8=>sg 1 kj <| Qab (.pointer (some ⟨gT,oT+i*3,none⟩)) 10 rfl kj (QdR 24 _ _ .i64 i gT oT len cap 35 3 ad (had (by omega)) rfl kj kj kj kj hlt) <| Qab (.agg (cat [#[.int .i64 op.kind],#[.slice op.a op.xs.length op.c],#[.int .i64 op.n]])) 11 rfl kj (Qd2 35 _ gT oT i op (OpAt.ext hop xx1) rfl kj kj kj) <| Qaq (cat [#[.int .i64 0],#[.slice none 0 0],#[.int .i64 0]]) 35 4 rfl kj kj fun g9 W2 l9 e2 r9_2=>sg 1 kj ?_
  refine Qal g9 _ (cat [#[.int .i64 op.kind],#[.slice op.a op.xs.length op.c],#[.int .i64 op.n]]) 35 r9_2 rfl kj (Qan 35 _ _ g9 35 _ _ r9_2 rfl kj kj (isz (n:=3) kj kj) (eqsz (n:=3) kj kj) kj) fun W3 p3 r9_3=>?_
  have x3:=Puts.ext p3 (Ext.tr xx1 e2) (qT xx1.size l9)
  refine sgN hK8 <| wp_seq_k fun K10 hK10=>?_
  rcases Nat.lt_or_ge 60 i with h60 | h60
  ·skip
   refine Qai <| sg 1 kj <| Qab (.bool true) 13 rfl kj (Qaf (u:=.bool (decide (((i:Nat):Int)>60))) kj (congrArg Value.bool (decide_eq_true (by omega)))) <| sg 6 kj <| sgN hK10 <| cond_true kj <| sgB kj <| wp_ret ?_
   repeat (first | with_reducible refine goR1 ?_ | with_reducible refine goR2 ?_)
   exact (show bodyPost _ _ _ .ret _ _ from ret1 (.bool true) rfl (Qa0 kj) ⟨true,rfl,x3,(fun h=>by cases h),fun _ h=>absurd (h i hlt).1 (by omega)⟩)
  ·skip
   refine Qai <| sg 1 kj <| Qab (.bool false) 13 rfl kj (Qaf (u:=.bool (decide (((i:Nat):Int)>60))) kj (congrArg Value.bool (decide_eq_false (by omega)))) <| sg 2 kj <| Qab (.slice op.a op.xs.length op.c) 16 rfl kj (Qah 33 _ g9 1 35 _ (.slice op.a op.xs.length op.c) _ r9_3 rfl kj kj kj) <| sg 3 kj <| sgN hK10 <| Qay (t:=decide (((op.xs.length:Nat):Int)>500)) kj (fun c12=>?_) (fun c12=>?_)
   ·skip
    have hno:¬ op.xs.length≤500:=by have:=of_decide_eq_true c12; omega
    refine sgB kj <| wp_ret ?_
    repeat (first | with_reducible refine goR1 ?_ | with_reducible refine goR2 ?_)
    exact (show bodyPost _ _ _ .ret _ _ from ret1 (.bool true) rfl (Qa0 kj) ⟨true,rfl,x3,(fun h=>by cases h),fun _ h=>hno (hopE▸(h i hlt).2)⟩)
   ·skip
    have hx5:op.xs.length≤500:=by have:=of_decide_eq_false c12; omega
    refine wp_skip <| hK7 _ _ <| Qai <| Qab (.int .i64 ((i+1:Nat):Int)) 20 rfl kj (Qaf (u:=.int .i64 (IntKind.i64.wrap (((i:Nat):Int)+1))) kj (congrArg (Value.int .i64) (i64n _ _ (by omega) (by omega)))) <| sg 1 kj <| Qao ?_
    repeat (first | with_reducible refine goX1 ?_ | with_reducible refine goX2 ?_ | with_reducible refine goX3 ?_)
    exact Qax (i+1) ⟨kj,kj,kj,trivial⟩ ⟨(by omega),(fun j hj=>(Nat.lt_or_ge j i).elim (hsm j) fun h=>by have e:j=i:=(by omega); rw [e]; exact ⟨h60,hopE▸hx5⟩),(Puts.ext p3 (Rely.Ext.trans e1 e2) (qT e1.size l9)),x3⟩ (by omega)
 ·skip
  have heq:i=len:=by have:=of_decide_eq_false c6; omega
  refine wp_exit <| hK2 _ _ <| sgB kj <| wp_ret ?_
  repeat (first | with_reducible refine goR1 ?_ | with_reducible refine goR2 ?_)
  exact (show bodyPost _ _ _ .ret _ _ from ret1 (.bool false) rfl (Qa0 kj) ⟨false,rfl,xx1,(fun _ j hj=>hsm j (by omega)),fun h=>by cases h⟩)
theorem QlR (len cap gT oT:Nat) (ad:Option Addr) (ops:Nat→OpV) (w:World) (had:0<len→ad=some ⟨gT,oT,none⟩) (hops:∀ i,i<len→OpAt w gT oT i (ops i)) (h:¬ ∀ i,i<len→i≤60∧(ops i).xs.length≤500):Calls Tryd.prog 7 #[.slice ad len cap] w (Ret w (.bool true)) :=
  (Qll len cap gT oT ad ops w had hops).mono fun e W ⟨b,h1,h2,h3,h4⟩=>by
    cases b with
    | true=>exact ⟨h1,h2⟩
    | false=>exact absurd (h3 rfl) h
theorem Qh9 (len cap gT oT:Nat) (ad:Option Addr) (ops:Nat→OpV) (w:World) (had:0<len→ad=some ⟨gT,oT,none⟩) (hops:∀ i,i<len→OpAt w gT oT i (ops i)) (h:∀ i,i<len→i≤60∧(ops i).xs.length≤500):Calls Tryd.prog 7 #[.slice ad len cap] w (Ret w (.bool false)) :=
  (Qll len cap gT oT ad ops w had hops).mono fun e W ⟨b,h1,h2,h3,h4⟩=>by
    cases b with
    | false=>exact ⟨h1,h2⟩
    | true=>exact absurd h (h4 rfl)
end Go.Proofs.YtophlgnnjjkkiaaDoor.Ci
end
section
namespace Go.Proofs.YtophlgnnjjkkiaaDoor.Ad
open Go Go.RowKit
open Rely Auto Own
def pat (k j:Nat):Int:=((29*k+5*j+3:Nat):Int)%256
def patL (k n:Nat):List Int:=(List.range n).map (pat k)
theorem Qbx (k n:Nat):(patL k n).length=n:=by simp [patL]
theorem QgO (k n:Nat):patL k (n+1)=patL k n++[pat k n]:=by simp [patL,List.range_succ]
theorem Qjt (k n m:Nat) (h:n≤m):(patL k m).take n=patL k n:=by
  unfold patL
  rw [←List.map_take,List.take_range,Nat.min_eq_left h]
theorem QhY (k n j:Nat) (h:j<n):nth (patL k n) j=pat k j:=by simp [nth,patL,h]
def gv (G : List Value) (i:Nat):Value:=G.getD i (.slice none 0 0)
theorem Qlm {G : List Value} {u:Value} {i:Nat} (h:i<G.length):gv (G++[u]) i=gv G i:=by simp [gv,List.getElem?_append_left h]
theorem Qln (G : List Value) (u:Value):gv (G++[u]) G.length=u:=by simp [gv]
def Full (base L:Nat) (V:Nat→Value) (N:Nat→Nat) (W:World):Prop:=∀ i,i<L→OwnV base (patL i (N i)) (V i) W
def QeV (base k:Nat) (N:Nat→Nat) (G:List Value) (W:World):Prop:=∀ i,i<k→OwnB base (patL i (N i+10)) (gv G i) W
def Gd (L k:Nat) (V:Nat→Value) (G:List Value):Prop:=∀ i j,i<k→j<L→i≠j→(gv G i).ownBlock≠(V j).ownBlock
def Ap (L k:Nat) (V:Nat→Value) (G:List Value) (u:Value):Prop :=
  (∀ j,j<L→j≠k→(V j).ownBlock=u.ownBlock→(V j).ownBlock=none)∧(∀ i,i<k→(gv G i).ownBlock≠u.ownBlock) ∧
    ((V k).ownBlock=none∨(V k).ownBlock≠u.ownBlock∨∃ g n n' c,u=.slice (some ⟨g,0,none⟩) n c∧V k=.slice (some ⟨g,0,none⟩) n' c)
def Mid (base L k m:Nat) (V:Nat→Value) (N:Nat→Nat) (G:List Value) (u:Value) (W:World):Prop :=
  OwnV base (patL k m) u W∧Full base L V N W∧QeV base k N G W∧Ap L k V G u
theorem OwnV.ext {base : Nat} {bs:List Int} {v:Value} {W W':World} (h:OwnV base bs v W) (e:Ext W W'):OwnV base bs v W':=h.imp id fun h=>h.ext e
theorem OwnB.v {base : Nat} {bs:List Int} {v:Value} {W:World} (h:OwnB base bs v W):OwnV base bs v W:=.inr h
theorem Full.ext {base L:Nat} {V:Nat→Value} {N:Nat→Nat} {W W':World} (h:Full base L V N W) (e:Ext W W'):Full base L V N W':=fun i hi=>OwnV.ext (h i hi) e
theorem QeV.ext {base k:Nat} {N:Nat→Nat} {G:List Value} {W W':World} (h:QeV base k N G W) (e:Ext W W'):QeV base k N G W':=fun i hi=>(h i hi).ext e
theorem Mid.ext {base L k m:Nat} {V:Nat→Value} {N:Nat→Nat} {G:List Value} {u:Value} {W W':World} (h:Mid base L k m V N G u W) (e:Ext W W'):Mid base L k m V N G u W' :=
  ⟨OwnV.ext h.1 e,h.2.1.ext e,h.2.2.1.ext e,h.2.2.2⟩
theorem Qjw {base : Nat} {bs:List Int} {v:Value} {W:World} (h:OwnB base bs v W):∃ g,v.ownBlock=some g:=by
  obtain ⟨g,c,cur,rfl,_⟩:=h
  exact ⟨g,rfl⟩
theorem Qeo {base : Nat} {bs:List Int} {v:Value} {W:World} (h:OwnV base bs v W) (hn:0<bs.length):OwnB base bs v W:=by
  rcases h with ⟨_,rfl⟩ | h
  · simp at hn
  · exact h
theorem Mid.start {base L k:Nat} {V:Nat→Value} {N:Nat→Nat} {G:List Value} {W:World} (hF:Full base L V N W) (hG:QeV base k N G W) (hd:∀ i j,i<L→j<L→i≠j→(V i).ownBlock=(V j).ownBlock→(V i).ownBlock=none) (hg:Gd L k V G) (hk:k<L):Mid base L k (N k) V N G (V k) W:=by
  refine ⟨hF k hk,hF,hG,fun j hj hn=>hd j k hj hk hn,fun i hi=>hg i k hi hk (by omega),?_⟩
  rcases hF k hk with ⟨e,_⟩ | ⟨g,c,cur,e,_⟩
  · exact .inl (by rw [e]; rfl)
  · exact .inr (.inr ⟨g,_,_,c,e,e⟩)
theorem Mid.append {base L k m:Nat} {V:Nat→Value} {N:Nat→Nat} {G:List Value} {u u':Value} {W W':World} (h:Mid base L k m V N G u W) (hk:k<L) (hm:N k≤m) (hw:Went u u' W W') (ho:OwnB base (patL k m++[pat k m]) u' W'):Mid base L k (m+1) V N G u' W':=by
  obtain ⟨h1,hF,hG,hA1,hA2,hA3⟩:=h
  rw [←QgO] at ho
  have hVk:OwnV base (patL k (N k)) (V k) W':=by
    rcases hA3 with h0 | h0 | ⟨g,n,n',c,e1,e2⟩
    · exact hw.other (hF k hk) (fun _=>h0)
    · exact hw.other (hF k hk) (fun e=>absurd e h0)
    · have hv:=hF k hk
      rw [e2] at hv ⊢
      rcases hv with ⟨e,_⟩ | hv
      · cases e
      · have hn':n'=N k:=by
          obtain ⟨_,_,_,e,_⟩:=hv
          rw [Qbx] at e
          injection e
        exact .inr (hw.same ho hv ⟨n,e1⟩ (by rw [hn',Qjt _ _ _ (by omega)]))
  have hF':Full base L V N W':=fun i hi=>by
    by_cases e:i=k
    · subst e; exact hVk
    · exact hw.other (hF i hi) (hA1 i hi e)
  have hG':QeV base k N G W':=fun i hi=>by
    have hh:=hw.other (OwnB.v (hG i hi)) (fun e=>absurd e (hA2 i hi))
    exact Qeo hh (by rw [Qbx]; omega)
  refine ⟨.inr ho,hF',hG',?_⟩
  rcases hw with ⟨g,n,c,e1,⟨n',e2⟩,he⟩ | ⟨⟨g,hg,hl⟩,he⟩
  · have hb:u'.ownBlock=u.ownBlock:=by rw [e1,e2]; rfl
    refine ⟨by rw [hb]; exact hA1,by rw [hb]; exact hA2,?_⟩
    rcases hA3 with h0 | h0 | ⟨g',a,b,c',q1,q2⟩
    · exact .inl h0
    · exact .inr (.inl (by rw [hb]; exact h0))
    · refine .inr (.inr ⟨g',n',b,c',?_,q2⟩)
      rw [e1] at q1
      simp only [Value.slice.injEq,Option.some.injEq,Addr.mk.injEq] at q1
      rw [e2,q1.1.1,q1.2.2]
  · have hne:∀ {bs:List Int} {v:Value},OwnV base bs v W→v.ownBlock≠u'.ownBlock:=fun hv e=>by
      have:=hv.lt (e.trans hg)
      omega
    exact ⟨fun j hj _ e=>absurd e (hne (hF j hj)),fun i hi=>hne (OwnB.v (hG i hi)),.inr (.inl (hne (hF k hk)))⟩
def OwnL (base g c:Nat) (cur:Array Value) (G:List Value) (W:World):Prop:=base≤g∧W.heap[g]? = some (.cells cur 33)∧cur.size=c∧G.length≤c∧c≤maxLen∧cur.toList.take G.length=G
theorem OwnL.ext {base g c:Nat} {cur:Array Value} {G:List Value} {W W':World} (h:OwnL base g c cur G W) (e:Ext W W'):OwnL base g c cur G W':=⟨h.1,Qaa h.2.1 e,h.2.2⟩
theorem Qfa {W : World} {a b:Nat} {ca cb:Array Value} {ta tb:TypeId} (h:W.heap[a]? = some (.cells ca ta)) (k:W.heap[b]? = some (.cells cb tb)) (hne:ta≠tb):a≠b:=fun e=>by
  subst e
  rw [h] at k
  injection k with k
  injection k with _ k2
  exact hne k2
theorem OwnV.extB {base g:Nat} {bs:List Int} {v:Value} {cur:Array Value} {W W':World} (h:OwnV base bs v W) (r:W.heap[g]? = some (.cells cur 33)) (e:ExtB g W W'):OwnV base bs v W':=by
  refine h.below fun g' hg'=>e.2.2.2.2 g' (h.lt hg') ?_
  rcases h with ⟨rfl,_⟩ | ⟨g2,c,cur2,rfl,h1,h2,h3⟩
  · cases hg'
  · obtain rfl:g2=g':=Option.some.inj hg'
    exact Qfa h2 r (by decide)
theorem OwnL.went {base b2 g c:Nat} {cur:Array Value} {G:List Value} {v v':Value} {bs:List Int} {W W':World} (h:OwnL base g c cur G W) (hv:OwnV b2 bs v W) (hw:Went v v' W W'):OwnL base g c cur G W':=by
  refine ⟨h.1,?_,h.2.2⟩
  rcases hw with ⟨g',n,c',rfl,_,he⟩ | ⟨_,he⟩
  · refine (he.2.2.2.2 g (Qau h.2.1) ?_).trans h.2.1
    rcases hv with ⟨e,_⟩ | ⟨g2,_,_,e,_,h2,_⟩
    · cases e
    · simp only [Value.slice.injEq,Option.some.injEq,Addr.mk.injEq] at e
      rw [e.1.1]
      exact (Qfa h2 h.2.1 (by decide)).symm
  · exact Qaa h.2.1 he
theorem Mid.done {base L k:Nat} {V:Nat→Value} {N:Nat→Nat} {G:List Value} {u:Value} {g:Nat} {cur:Array Value} {W W':World} (h:Mid base L k (N k+10) V N G u W) (hk:k<L) (hl:G.length=k) (hg:Gd L k V G) (r:W.heap[g]? = some (.cells cur 33)) (e:ExtB g W W') :
    Full base L V N W'∧QeV base (k+1) N (G++[u]) W'∧Gd L (k+1) V (G++[u]):=by
  obtain ⟨h1,hF,hG,hA1,hA2,hA3⟩:=h
  subst hl
  refine ⟨fun i hi=>OwnV.extB (hF i hi) r e,fun i hi=>?_,fun i j hi hj hn=>?_⟩
  · by_cases q:i=G.length
    · subst q; rw [Qln]; exact Qeo (OwnV.extB h1 r e) (by rw [Qbx]; omega)
    · rw [Qlm (by omega)]
      exact Qeo (OwnV.extB (OwnB.v (hG i (by omega))) r e) (by rw [Qbx]; omega)
  · by_cases q:i=G.length
    · subst q; rw [Qln]
      obtain ⟨g',hg'⟩:=Qjw (Qeo h1 (by rw [Qbx]; omega))
      intro q2
      have:=hA1 j hj (Ne.symm hn) q2.symm
      rw [←q2,hg'] at this; cases this
    · rw [Qlm (by omega)]; exact hg i j (by omega) hj hn
end Go.Proofs.YtophlgnnjjkkiaaDoor.Ad
end
