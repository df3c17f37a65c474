/- Texts of this claim, joined (P4). -/
import Derived.Test.YtioglfpngaddfaaDoorZP3

set_option linter.unusedVariables false
set_option linter.unusedSimpArgs false
set_option maxHeartbeats 4000000
open Option renaming map_some → zaa
open List renaming mem_singleton → zab, length_append → zac, map_toArray → zag, map_cons → zah, foldl_toArray' → zak, not_mem_nil → zal, replicate → zam, map_append → zan, append_assoc → zao, getElem?_append_right → zaq, nodup_append → zar, mem_map → zas, mem_iff_getElem? → zat, length_map → zav, nil_append → zax, getElem?_eq_some_iff → zaz, take_succ_cons → za2, take_zero → za3, drop_succ_cons → za4, drop_zero → za5, cons_append → za6, mem_cons → za7, mem_append → za8, range → zaL, getElem?_eq_none → zaM, range_succ → zaN, countP_append → zaO, countP_singleton → zaP, getElem?_toArray → zaS, all_eq_true → zaT, mem_range → zaU, length_drop → zaV
open Go.Sem renaming run_bind → zad, run_pure → zae
open Go.Result renaming andThen_ok → zaf, ok → zaX
open Go.Value renaming pointer → zai, bool → zau, int → zaK
open Array renaming ext' → zaj, getElem?_toList → za0, getElem?_eq_none → zaD, replicate → zaE, ext_getElem? → zaQ, getD_eq_getD_getElem? → zaR
open Nat renaming lt_or_ge → zap, ne_of_lt → zaw, pow_pos → zay, zero_le → za1, zero_add → za9, ne_of_gt → zaW
open Go.Region renaming ready → zaA, wanted → zaB, binds → zaC, noSelect → zaG, noSelect_spec → zaH
open Go.Code renaming region → zaF
open Go.IntKind renaming u8 → zaI, i64 → zaJ
namespace Go.Proofs.YtioglfpngaddfaaDoor
open Rely.Ext renaming refl → zaY, trans → zaZ
open Auto.Puts renaming row → zba
open Auto.Ext renaming tr → zbb
open Own.ExtB renaming refl → zbc, row → zbd
open Auto.OwnN renaming base → zbe, rd → zbf
open Auto.Qah renaming row → zbg, step → zbh
section
namespace Cn
open Go Go.RowKit
open Rely Auto Own Sha
open Go.Proofs.YtioglfpngaddfaaDoor
def OwnR (T : TypeId) (base:Nat) (vs:List Value) (v:Value) (W:World):Prop:=W.ownsRow base T 1 v vs.length vs∧vs.length≤maxLen
theorem OwnR.keep {T : TypeId} {base:Nat} {vs:List Value} {v:Value} {W W':World} (h:OwnR T base vs v W) (hk:∀ g,v.ownBlock=some g→W'.heap[g]? = W.heap[g]?):OwnR T base vs v W':=by
  obtain ⟨⟨h1,h2⟩,hm⟩:=h
  refine ⟨⟨h1,?_⟩,hm⟩
  rcases h2 with h2 | ⟨g,c,cur,rfl,q2,q3,q4,q5,q6,q7⟩
  · exact .inl h2
  · exact .inr ⟨g,c,cur,rfl,q2,(hk g rfl).trans q3,q4,q5,q6,q7⟩
theorem OwnR.at {T : TypeId} {base:Nat} {vs:List Value} {v:Value} {W:World} (h:OwnR T base vs v W) {g:Nat} (hg:v.ownBlock=some g):base≤g∧∃ cur,W.heap[g]? = some (.cells cur T):=by
  rcases h.1.2 with ⟨rfl,_⟩ | ⟨g',c,cur,rfl,q2,q3,_⟩
  · cases hg
  · obtain rfl:g'=g:=Option.some.inj hg
    exact ⟨q2,cur,q3⟩
theorem QgW {W : World} {g:Nat} {c c':Array Value} {T T':TypeId} (h:W.heap[g]? = some (.cells c T)) (h':W.heap[g]? = some (.cells c' T')) (hne:T≠T'):False:=by
  rw [h] at h'
  simp only [Option.some.injEq,Obj.cells.injEq] at h'
  exact hne h'.2.1
theorem QnF {P : Program} {T:TypeId} {z:Value} {b:Nat} (hi:(P.info? T).map (fun i=>(i.zero,i.size,i.bytes))=some (some z,1,b)):∃ i,P.info? T=some i∧i.zero=some z∧i.size=1∧i.bytes=b:=by
  cases hq:P.info? T with
  | none=>rw [hq] at hi; cases hi
  | some i =>
    rw [hq] at hi
    simp only [zaa,Option.some.injEq,Prod.mk.injEq] at hi
    exact ⟨i,rfl,hi.1,hi.2.1,hi.2.2⟩
theorem Qkf {P : Program} {ρ:Operand→Value} {o:Oper} {W:World} {T:TypeId} (base b:Nat) (s x:Operand) (t:TypeId) (ho:o.op=.call { callee:=.builtin .append,args:=#[s,x],argTypes:=#[t,t] })
    (ht:P.underlying t=some (.slice T)) (z:Value) (hi:(P.info? T).map (fun i=>(i.zero,i.size,i.bytes))=some (some z,1,b)) (hz:z.cells.size=1) (hb:b≤100) {v y:Value} {vs:List Value} {gy c:Nat} {Ty:TypeId}
    (hs:ρ s=v) (hx:ρ x=.slice (some ⟨gy,0,none⟩) 1 c) (ry:W.heap[gy]? = some (.cells #[y] Ty)) (h1:y.oneCell'=true)
    (h:OwnR T base vs v W) (hn:vs.length≤100000) (hV:base≤W.heap.size) :
    ∃ u W',(execOp ρ o).run P W=.ok (.value u) W'∧OwnR T base (vs++[y]) u W'∧W.grownBy W' v.ownBlock:=by
  obtain ⟨i,hq,hi1,hi2,hi3⟩:=QnF hi
  obtain ⟨v',W',hr,h2,h3,_,h5⟩:=run_append_own_at (P:=P) W base t o.type T i z 1 b ht hq hi1 hi2 hi3 hz (by omega) v vs.length vs h.1 ⟨gy,0,none⟩ 1 c [y] (by simp)
    (fun j u hu=>by
      cases j with
      | zero =>
        simp only [List.getElem?_cons_zero,Option.some.injEq] at hu
        subst hu
        rw [WideShapes.add_plain]
        exact QcO ry rfl
      | succ j=>simp at hu) (fun u hu=>by rw [zab.1 hu]; exact h1) (by simp only [maxLen]; omega) (by
        have:(vs.length+1)*b≤100001*100:=Nat.mul_le_mul (by omega) hb
        omega) hV
  refine ⟨v',W',?_,⟨by rw [zac]; exact h2,by rw [zac]; simp only [maxLen]; show _+1≤_; omega⟩,h3⟩
  unfold execOp
  simp only [ho,resolve,invoke,builtin,zad,zae,zaf,zag,zah,List.map_nil,hs,hx,hr]
structure GP (base gc : Nat) (w W : World) : Prop where
  os:W.os=w.os
  tape:W.tape=w.tape
  output:W.output=w.output
  size:w.heap.size≤W.heap.size
  block:∀ k,k<w.heap.size→k≠gc→(k<base∨∀ cs fr,w.heap[k]?≠some (.cells cs 73 fr))→W.heap[k]? = w.heap[k]?
theorem GP.refl (base gc:Nat) (w:World):GP base gc w w:=⟨rfl,rfl,rfl,qR _,fun _ _ _ _=>rfl⟩
theorem GP.trans {base gc:Nat} {u w W:World} (h:GP base gc u w) (k:GP base gc w W):GP base gc u W :=
  ⟨k.os.trans h.os,k.tape.trans h.tape,k.output.trans h.output,qT h.size k.size,fun i hi hn hc=>by
    have e:=h.block i hi hn hc
    refine (k.block i (qL hi h.size) hn ?_).trans e
    rcases hc with hc | hc
    · exact .inl hc
    · exact .inr fun cs fr=>by rw [e]; exact hc cs fr⟩
theorem GP.of_ext {base gc:Nat} {w W:World} (e:Ext w W):GP base gc w W:=⟨e.os,e.tape,e.output,e.size,fun k hk _ _=>e.block k hk⟩
theorem GP.ext {base gc:Nat} {u w W:World} (h:GP base gc u w) (e:Ext w W):GP base gc u W:=h.trans (GP.of_ext e)
theorem GP.putg {base gc:Nat} {u w W:World} (h:GP base gc u w) (p:Puts w gc W):GP base gc u W :=
  ⟨p.1.trans h.os,p.2.1.trans h.tape,p.2.2.1.trans h.output,by have:=h.size; have:=p.2.2.2.1; omega,fun k hk hn hc=>(p.2.2.2.2 k hn).trans (h.block k hk hn hc)⟩
theorem GP.row {base gc g:Nat} {w W:World} {c:Array Value} {T:TypeId} (h:GP base gc w W) (r:w.heap[g]? = some (.cells c T)) (hT:T≠73) (hn:g≠gc):W.heap[g]? = some (.cells c T) :=
  (h.block g (Qas r) hn (.inr fun cs fr e=>by rw [r] at e; simp only [Option.some.injEq,Obj.cells.injEq] at e; exact hT e.2.1)).trans r
theorem GP.low {base gc g:Nat} {w W:World} {ob:Obj} (h:GP base gc w W) (r:w.heap[g]? = some ob) (hb:g<base) (hn:g≠gc):W.heap[g]? = some ob:=(h.block g (Qas r) hn (.inl hb)).trans r
theorem GP.grown {base gc:Nat} {w W:World} {vs:List Value} {v:Value} (h:w.grownBy W v.ownBlock) (hv:OwnR 73 base vs v w):GP base gc w W :=
  ⟨h.os,h.tape,h.output,h.size,fun k hk hn hc=>h.block k hk fun e=>by
    obtain ⟨h1,cur,h2⟩:=hv.at e.symm
    rcases hc with hc | hc
    · omega
    · exact hc _ _ h2⟩
theorem ChSt.gp {base gc g mg:Nat} {s0 ts:List Int} {pl:Nat} {ms:List (Int×List Int)} {W W':World} (h:ChSt g mg s0 ts pl ms W) (q:GP base gc W W') (hg:g≠gc) (hm:mg≠gc):ChSt g mg s0 ts pl ms W':=by
  obtain ⟨B,h1,h2⟩:=h.row
  obtain ⟨es,c,h3,-⟩:=id h.mp
  exact h.keep ((q.row h2 (by decide) hg).trans h2.symm) (q.block mg (Qas h3) hm (.inr fun cs fr e=>by rw [h3] at e; cases e))
def GrS (base gc:Nat) (cs:List (Nat×Nat)) (W:World):Prop:=∃ v,W.heap[gc]? = some (.cells #[v] 71)∧OwnR 73 base (cs.map fun p=>zai (some ⟨p.1,0,none⟩)) v W
theorem GrS.ext {base gc:Nat} {cs:List (Nat×Nat)} {W W':World} (h:GrS base gc cs W) (e:Ext W W'):GrS base gc cs W':=by
  obtain ⟨v,h1,h2⟩:=h
  exact ⟨v,Qab h1 e,h2.keep fun g hg=>by obtain ⟨-,cur,hc⟩:=h2.at hg; exact e.block g (Qas hc)⟩
def lftV (sec : List Int):List Int:=QbY sec (strB Qkc)
def rgtV (sec : List Int):List Int:=QbY sec (strB Qhd)
attribute [irreducible] lftV rgtV
theorem Qkv (sec : List Int):(lftV sec).length=32:=by unfold lftV; exact Qd6 _ _
theorem Qkg (sec : List Int):(rgtV sec).length=32:=by unfold rgtV; exact Qd6 _ _
theorem Qip (sec : List Int):Qaj (lftV sec):=by unfold lftV; exact QcU _ _
theorem Qid (sec : List Int):Qaj (rgtV sec):=by unfold rgtV; exact QcU _ _
def QcJ (sec : List Int):Nat→Nat→List Int
  | 0,_=>sec
  | k+1,j=>if j<2^k then QcJ (lftV sec) k j else QcJ (rgtV sec) k (j-2^k)
def lvOk : Nat→Int→Bool
  | 0,x=>decide (0≤x)&&decide (x≤62)&&decide (Seat.kidL x<0)
  | k+1,x=>decide (0≤x)&&decide (x≤62)&&decide (0≤Seat.kidL x)&&lvOk k (Seat.kidL x)&&lvOk k (Seat.kidR x)
theorem Qjj : ∀ k:Fin 6,lvOk k.val (((2^k.val:Nat):Int)-1)=true:=by decide +kernel
theorem Qhw {k : Nat} {x:Int} (h:lvOk k x=true):0≤x∧x≤62:=by
  cases k <;> (unfold lvOk at h; simp only [Bool.and_eq_true,decide_eq_true_eq] at h)
  · exact h.1
  · exact h.1.1.1
def GrR (base gc:Nat) (cs:List (Nat×Nat)) (sec:List Int) (k:Nat) (W W':World):Prop:=GP base gc W W'∧∃ ns:List (Nat×Nat),ns.length=2^k∧GrS base gc (cs++ns) W'∧(∀ j p,ns[j]? = some p→ChSt p.1 p.2 (QcJ sec k j) [] 0 [] W'∧W.heap.size≤p.1∧W.heap.size≤p.2)∧(ns.map Prod.fst).Nodup∧(ns.map Prod.snd).Nodup
theorem Qj7 (pl : Nat→Option (Nat×Nat)) (i off n:Nat) (v:Value) (pre:List (Array Value)) (mid:Array Value) (post:List (Array Value)) (ps:List (Nat×Value)) (h1:pl i=some (off,n)) (hoff:(cat pre).size=off) (hm:mid.size=n) (hv:v.cells.size=n) :
    Instr.fill pl (cat (pre++([mid]++post))) ((i,v)::ps)=Instr.fill pl (cat (pre++([v.cells]++post))) ps:=by
  have hz:(v.cells.zipIdx.foldl (fun cs (x:Value×Nat)=>cs.setIfInBounds (off+x.2) x.1) (cat (pre++([mid]++post))))=cat (pre++([v.cells]++post)):=by
    have e1:v.cells.zipIdx=(v.cells.toList.zipIdx 0).toArray:=by
      apply zaj
      simp
    rw [e1,zak,QcA]
    · rw [Nat.add_zero]
      have:=Qdw pre [mid] [v.cells] post off hoff (by show (cat [v.cells]).size=(cat [mid]).size; simp [cat,hm,hv])
      rw [show (cat [v.cells]).toList=v.cells.toList by simp [cat]] at this
      exact this
    · rfl
  rw [Instr.fill,h1]
  simp only
  have hs:(cat (pre++([mid]++post))).size=off+(n+(cat post).size):=by rw [QaA,qS,hoff]; show off+(cat (mid::post)).size=_; rw [Qac,qS,hm]
  rw [if_neg (by rw [hv,hs]; simp)]
  show Instr.fill pl (v.cells.zipIdx.foldl (fun cs (x:Value×Nat)=>cs.setIfInBounds (off+x.2) x.1) (cat (pre++([mid]++post)))) ps=_
  rw [hz]
theorem Qib {P : Program} {ρ:Operand→Value} {o:Oper} {w:World} (t:TypeId) (parts:Array (Nat×Operand)) (z:Value) (places:Array (Nat×Nat)) (r zc:Array Value) (ps:List (Nat×Value)) (ho:o.op=.build t parts) (hv:(parts.map fun (i,x)=>(i,ρ x)).toList=ps) (hzc:z=.agg zc) (hf:Instr.fill (fun i=>places[i]?) zc ps=some r)
    (hz:(zeroValue t).run P w=.ok z w) (hu:P.underlying t=some (.struct (P.fieldsOf t))) (hm:((P.fieldsOf t).mapM fun f=>do pure (f.offset,←sizeOf f.type):Sem (Array (Nat×Nat))).run P w=.ok places w) :
    (execOp ρ o).run P w=.ok (.value (.agg r)) w:=by
  subst hzc
  rw [←hv] at hf
  have hB:(Instr.build t (parts.map fun (i,x)=>(i,ρ x))).run P w=.ok (.agg r) w:=by
    unfold Instr.build
    rw [zad,hz,zaf,zad,run_underlying hu w,zaf]
    show (Sem.run P _ w)=_
    rw [zad,hm,zaf]
    simp only [show (Value.agg zc).cells=zc from rfl,hf]
    rfl
  unfold execOp
  simp only [ho,zad,hB,zaf,zae]
theorem Qgr {base : Nat} {vs:List Value} {v:Value} {W W':World} {g:Nat} {c:Array Value} {T:TypeId} (h:W.grownBy W' v.ownBlock) (hv:OwnR 73 base vs v W) (r:W.heap[g]? = some (.cells c T)) (hT:T≠73):W'.heap[g]? = some (.cells c T) :=
  (h.block g (Qas r) fun e=>by obtain ⟨-,cur,h2⟩:=hv.at e.symm; exact QgW r h2 hT).trans r
theorem QkC {g gm:Nat} {sec:List Int} {W:World} (hl:sec.length=32) (hb:Qaj sec) (r:W.heap[g]? = some (.cells (cat [#[.int .i64 0],#[.int .u64 0],ints .u8 (sec),#[.int .i64 0],#[.map (some gm)]]) 82)) (hm:W.heap[gm]? = some (.map #[] 0)):ChSt g gm sec [] 0 [] W :=
  ⟨hl,hb,⟨0,Qjq,r⟩,⟨_,_,hm,Ql6 0⟩,⟨fun p hp=>absurd hp zal,fun k hk _ _=>absurd hk (Nat.not_lt_zero _)⟩⟩
theorem QlL (pl : Nat→Option (Nat×Nat)) (h1:pl 1=some (2,32)) (h3:pl 3=some (35,1)) (sec:List Int) (hl:sec.length=32) (gm:Nat):Instr.fill pl (cat [#[.int .i64 0],#[.int .u64 0],ints .u8 (zam 32 0),#[.int .i64 0],#[.map none]]) [(1,.agg (ints .u8 sec)),(3,.map (some gm))]=some (cat [#[.int .i64 0],#[.int .u64 0],ints .u8 sec,#[.int .i64 0],#[.map (some gm)]]):=by
  refine (Qj7 pl 1 2 32 (.agg (ints .u8 sec)) [#[.int .i64 0],#[.int .u64 0]] (ints .u8 (zam 32 0)) [#[.int .i64 0],#[.map none]] [(3,.map (some gm))] h1 rfl (by rw [Qap]; rfl) ((Qap _ _).trans hl)).trans ?_
  refine (Qj7 pl 3 35 1 (.map (some gm)) [#[.int .i64 0],#[.int .u64 0],ints .u8 sec,#[.int .i64 0]] #[.map none] [] [] h3 (by rw [Qac,Qac,Qac,Qac]; simp only [qS,cat,(Qap _ _).trans hl]; rfl) rfl rfl).trans rfl
theorem OwnR.sl {T : TypeId} {base:Nat} {vs:List Value} {v:Value} {W:World} (h:OwnR T base vs v W):∃ a n c,v=.slice a n c:=by
  rcases h.1.2 with ⟨rfl,_⟩ | ⟨g,c,cur,rfl,_⟩
  · exact ⟨_,_,_,rfl⟩
  · exact ⟨_,_,_,rfl⟩
theorem appG {P : Program} {ρ:Operand→Value} {o:Oper} {W:World} {base gc:Nat} {s x:Operand} {t:TypeId} {v y:Value} {vs:List Value} {gy c g1 g2:Nat} {Ty T1 T2:TypeId} {c1 c2:Array Value} (ho:o.op=.call { callee:=.builtin .append,args:=#[s,x],argTypes:=#[t,t] })
    (ht:P.underlying t=some (.slice 73)) (hi:(P.info? 73).map (fun i=>(i.zero,i.size,i.bytes))=some (some (.pointer none),1,8))
    (hs:ρ s=v) (hx:ρ x=.slice (some ⟨gy,0,none⟩) 1 c) (ry:W.heap[gy]? = some (.cells #[y] Ty)) (h1:y.oneCell'=true)
    (h:OwnR 73 base vs v W) (hn:vs.length≤100000) (hV:base≤W.heap.size) (r1:W.heap[g1]? = some (.cells c1 T1)) (n1:T1≠73) (r2:W.heap[g2]? = some (.cells c2 T2)) (n2:T2≠73) :
    ∃ u W',(execOp ρ o).run P W=.ok (.value u) W'∧OwnR 73 base (vs++[y]) u W'∧GP base gc W W'∧W'.heap[g1]? = some (.cells c1 T1)∧W'.heap[g2]? = some (.cells c2 T2):=by
  obtain ⟨u,W',q1,q2,q3⟩:=Qkf (P:=P) base 8 s x t ho ht (.pointer none) hi rfl (by decide) hs hx ry h1 h hn hV
  exact ⟨u,W',q1,q2,GP.grown q3 h,Qgr q3 h r1 n1,Qgr q3 h r2 n2⟩
theorem gr0 {base gc g gm:Nat} {cs:List (Nat×Nat)} {sec:List Int} {w W2 W3:World} {v0 u1:Value} (x:GP base gc w W2) (r0:W2.heap[gc]? = some (.cells #[v0] 71)) (hv:OwnR 73 base ((cs.map fun p=>zai (some ⟨p.1,0,none⟩))++[.pointer (some ⟨g,0,none⟩)]) u1 W2)
    (hc:ChSt g gm sec [] 0 [] W2) (p:Puts W2 gc W3) (r:W3.heap[gc]? = some (.cells #[u1] 71)) (lg:w.heap.size≤g) (lm:w.heap.size≤gm) (hl:gc<w.heap.size):GrR base gc cs sec 0 w W3:=by
  have hk:∀ k,k≠gc→W3.heap[k]? = W2.heap[k]?:=fun k hn=>p.2.2.2.2 k hn
  refine ⟨GP.putg x p,[(g,gm)],rfl,⟨u1,r,?_⟩,?_,by simp,by simp⟩
  · rw [zan]
    exact hv.keep fun k hk'=>hk k fun e=>by obtain ⟨-,cur,h2⟩:=hv.at hk'; rw [e] at h2; exact QgW r0 h2 (by decide)
  · intro j q hj
    cases j with
    | succ j=>cases hj
    | zero =>
      obtain rfl:(g,gm)=q:=Option.some.inj hj
      exact ⟨hc.keep (hk g (by show g≠gc; omega)) (hk gm (by show gm≠gc; omega)),lg,lm⟩
theorem QlC {sec : List Int} {k j:Nat} (h:j<2^k):QcJ sec (k+1) j=QcJ (lftV sec) k j:=by rw [QcJ,if_pos h]
theorem QlB {sec : List Int} {k j:Nat}:QcJ sec (k+1) (2^k+j)=QcJ (rgtV sec) k j:=by rw [QcJ,if_neg (by omega),Nat.add_sub_cancel_left]
theorem grS {base gc k:Nat} {cs n1:List (Nat×Nat)} {sec:List Int} {w W1 W2 W3 W4:World} (x:GP base gc w W1) (q1:GP base gc W1 W2) (l1:n1.length=2^k) (c1:∀ j p,n1[j]? = some p→ChSt p.1 p.2 (QcJ (lftV sec) k j) [] 0 [] W2∧W1.heap.size≤p.1∧W1.heap.size≤p.2) (d1:(n1.map Prod.fst).Nodup) (d2:(n1.map Prod.snd).Nodup) (e:GP base gc W2 W3) (h:GrR base gc (cs++n1) (rgtV sec) k W3 W4) (hl:gc<w.heap.size):GrR base gc cs sec (k+1) w W4:=by
  obtain ⟨q2,n2,l2,g2,c2,d3,d4⟩:=h
  refine ⟨(x.trans q1).trans (e.trans q2),n1++n2,by rw [zac,l1,l2,Nat.pow_succ]; omega,by rw [←zao]; exact g2,?_,?_,?_⟩
  · intro j p hj
    rcases zap j (2^k) with hjk | hjk
    · rw [List.getElem?_append_left (by omega)] at hj
      obtain ⟨a1,a2,a3⟩:=c1 j p hj
      have:=x.size
      rw [QlC hjk]
      exact ⟨a1.gp (e.trans q2) (by omega) (by omega),by omega,by omega⟩
    · rw [zaq (by omega),l1] at hj
      obtain ⟨a1,a2,a3⟩:=c2 _ p hj
      have:=x.size
      have:=q1.size
      have:=e.size
      rw [show j=2^k+(j-2^k) by omega,QlB]
      exact ⟨a1,by omega,by omega⟩
  · rw [zan]
    refine zar.2 ⟨d1,d3,fun a ha b hb he=>?_⟩
    obtain ⟨p,hp,rfl⟩:=zas.1 ha
    obtain ⟨q,hq,rfl⟩:=zas.1 hb
    obtain ⟨i,hi⟩:=zat.1 hp
    obtain ⟨j,hj⟩:=zat.1 hq
    have h1:=(c1 i p hi).1.glt
    have h2:=(c2 j q hj).2.1
    have:=e.size
    omega
  · rw [zan]
    refine zar.2 ⟨d2,d4,fun a ha b hb he=>?_⟩
    obtain ⟨p,hp,rfl⟩:=zas.1 ha
    obtain ⟨q,hq,rfl⟩:=zas.1 hb
    obtain ⟨i,hi⟩:=zat.1 hp
    obtain ⟨j,hj⟩:=zat.1 hq
    have h1:=(c1 i p hi).1.mp.lt
    have h2:=(c2 j q hj).2.2
    have:=e.size
    omega
theorem Qmv {base gc:Nat} {w W:World} (h:Seat.TabAt w) (q:GP base gc w W) (hb:2<base) (hn:2≠gc):Seat.TabAt W :=
  ⟨qL h.1 q.size,fun j hj=>by rw [World.cell?_of_block (q.block _ h.1 hn (.inl hb))]; exact h.2 j hj⟩
theorem Qld (x : Int) (hx:0≤x∧x≤62) (W:World) (hT:Seat.TabAt W):Calls Tryd.prog 42 #[.int .i64 x] W (Ret W (.tuple #[.int .i64 (Seat.kidL x),.int .i64 (Seat.kidR x)])) :=
  (Seat.children x ⟨by omega,by omega⟩ W hT).mono fun e W' hh=>⟨hh.1,hh.2▸zaY _⟩
theorem QmT (base gc:Nat) (cs:List (Nat×Nat)) (sec:List Int) (x:Int) (tc tq:TypeId) (w:World) (hc:w.heap[4]? = some (.cells (ints .u64 QaQ) tc)) (hq:w.heap[3]? = some (.cells (ints .u64 Qa6) tq)) (hT:Seat.TabAt w) (hsl:sec.length=32) (hsb:Qaj sec) (hb:base≤w.heap.size) (hcn:cs.length≤1000) (hgs:GrS base gc cs w) (hlv:lvOk 0 x=true):Calls Tryd.prog 31 #[.pointer (some ⟨gc,0,none⟩),.agg (ints .u8 sec),.int .i64 x] w (fun e W=>e=.returned (.tuple #[])∧GrR base gc cs sec 0 w W):=by
  obtain ⟨v0,hgc,hv0⟩:=hgs
  have hgcl:=Qas hgc
  have hk0:Seat.kidL x<0:=by unfold lvOk at hlv; simp only [Bool.and_eq_true,decide_eq_true_eq] at hlv; exact hlv.2
  refine enter 38 [(0,.pointer (some ⟨gc,0,none⟩)),(1,.agg (ints .u8 (sec))),(2,.int .i64 x)] Tryd.func31 rfl rfl kj rfl ?_
  refine wp_seq_k fun K2 hK2=>?_
  refine Qad ?_
  refine Qam (ints .u8 (sec)) 29 4 rfl kj kj fun g3 W1 l3 e1 r3_1=>?_
  have x1:GP base gc w W1:=GP.ext (GP.refl base gc w) e1
  have b3:w.heap.size≤g3:=qT (GP.refl base gc w).size l3
  refine Qag ?_
  refine hK2 _ _ ?_
  refine wp_seq_k fun K4 hK4=>?_
  refine Qad ?_
  refine Qaa (.int .i64 x) 9 rfl kj kj ?_
  have y0_1:Ext w W1:=(zaZ (zaY w) e1)
  refine Qat (.tuple #[.int .i64 (Seat.kidL x),.int .i64 (Seat.kidR x)]) 42 #[.int .i64 x] 10 rfl kj kj (Qld x (Qhw hlv) _ (hT.ext y0_1)) fun W2 e2=>?_
  have x2:GP base gc w W2:=GP.ext x1 e2
  refine Qaa (.tuple #[.int .i64 (Seat.kidL x),.int .i64 (Seat.kidR x)]) 8 rfl kj kj ?_
  refine Qaa (.int .i64 (Seat.kidL x)) 11 rfl kj kj ?_
  refine Qaa (.int .i64 (Seat.kidR x)) 12 rfl kj kj ?_
  refine Qaa (.int .i64 (Seat.kidL x)) 6 rfl kj kj ?_
  refine Qaa (.int .i64 (Seat.kidR x)) 7 rfl kj kj ?_
  refine Qag ?_
  refine hK4 _ _ ?_
  refine wp_seq_k fun K5 hK5=>?_
  refine wp_seq_k fun K6 hK6=>?_
  refine Qad ?_
  refine Qaa (.int .i64 (Seat.kidL x)) 13 rfl kj kj ?_
  refine Qaa (.bool true) 14 rfl kj (Qai (u:=.bool (decide ((Seat.kidL x)<0))) kj (congrArg zau (decide_eq_true hk0))) ?_
  refine Qag ?_
  refine hK6 _ _ ?_
  refine cond_true kj ?_
  refine wp_seq_k fun K7 hK7=>?_
  have r1_1:=(Qab hgc e1)
  have r1_2:=(Qab r1_1 e2)
  have r3_2:=(Qab r3_1 e2)
  refine Wm.region_walkM (fun W=>W.heap[gc]? = some (.cells (#[v0]) 71)∧W.heap[g3]? = some (.cells (ints .u8 (sec)) 29)) 13 kj fun W3 e3=>⟨⟨Qab r1_2 e3,Qab r3_2 e3⟩,?_⟩
  have x3:GP base gc w W3:=GP.ext x2 e3
  refine Wm.wm_val 0 (.pointer (some ⟨gc,0,none⟩)) 15 rfl rfl kj kj (by decide) kj (fun _ _ _ h=>h) (fun W hR=>by kernel_rfl) ?_
  refine Wm.wm_val 1 (.pointer (some ⟨gc,0,none⟩)) 16 rfl rfl kj kj (by decide) kj (fun _ _ _ h=>h) (fun W hR=>by kernel_rfl) ?_
  refine Wm.wm_val 2 (.pointer (some ⟨gc,0,none⟩)) 17 rfl rfl kj kj (by decide) kj (fun _ _ _ h=>h) (fun W hR=>by kernel_rfl) ?_
  refine Wm.wm_val 3 (.pointer (some ⟨gc,0,none⟩)) 18 rfl rfl kj kj (by decide) kj (fun _ _ _ h=>h) (fun W hR=>by kernel_rfl) ?_
  refine Wm.wm_val 4 (v0) 19 rfl rfl kj kj (by decide) kj (fun _ _ _ h=>h) (fun W hR=>(Qae 69 _ gc 0 71 _ (v0) _ hR.1 rfl kj kj kj)) ?_
  refine Wm.wm_val 5 (.agg (ints .u8 (sec))) 20 rfl rfl kj kj (by decide) kj (fun _ _ _ h=>h) (fun W hR=>(Qao 29 _ g3 29 _ _ hR.2 rfl kj kj (isz (n:=32) kj ((Qap _ _).trans hsl)))) ?_
  have r1_3:=(Qab r1_2 e3)
  have r3_3:=(Qab r3_2 e3)
  refine Wm.wm_run 6 kj rfl (fun v W'=>(∃ g,v=.map (some g)∧W3.heap.size≤g∧W'.heap[g]? = some (.map #[] 0))∧Ext W3 W') 21 rfl kj ⟨.map (some W3.heap.size),W3.alloc (.map #[] 0),kj,⟨_,rfl,qR _,heap_alloc_new _ _⟩,QaZ _ _⟩ (fun v W h=>⟨Qab r1_3 h.2,Qab r3_3 h.2⟩) fun vv8 W4 hh8=>?_
  obtain ⟨⟨gm,rfl,lgm,hgm⟩,e4⟩:=hh8
  have x4:GP base gc w W4:=GP.ext x3 e4
  have lgm0:w.heap.size≤gm:=qT x3.size lgm
  refine Wm.wm_val 7 (.agg (cat [#[.int .i64 0],#[.int .u64 0],ints .u8 (sec),#[.int .i64 0],#[.map (some gm)]])) 22 rfl rfl kj kj (by decide) kj (fun _ _ _ h=>h) (fun W hR=>(Qib 82 _ (.agg (cat [#[.int .i64 0],#[.int .u64 0],ints .u8 (zam 32 0),#[.int .i64 0],#[.map none]])) #[(0,2),(2,32),(34,1),(35,1)] (cat [#[.int .i64 0],#[.int .u64 0],ints .u8 (sec),#[.int .i64 0],#[.map (some gm)]]) _ [(1,.agg (ints .u8 sec)),(3,.map (some gm))] rfl kj rfl (QlL (fun i=>(#[(0,2),(2,32),(34,1),(35,1)]:Array (Nat×Nat))[i]?) rfl rfl sec hsl gm) kj kj kj)) ?_
  have r1_4:=(Qab r1_3 e4)
  have r3_4:=(Qab r3_3 e4)
  refine Wm.wm_run 8 kj rfl (fun v W'=>(∃ g,v=.pointer (some ⟨g,0,none⟩)∧W4.heap.size≤g∧W'.heap[g]? = some (.cells (cat [#[.int .i64 0],#[.int .u64 0],ints .u8 (sec),#[.int .i64 0],#[.map (some gm)]]) 82))∧Ext W4 W') 23 rfl kj ⟨.pointer (some ⟨W4.heap.size,0,none⟩),W4.alloc (.cells (cat [#[.int .i64 0],#[.int .u64 0],ints .u8 (sec),#[.int .i64 0],#[.map (some gm)]]) 82),kj,⟨_,rfl,qR _,heap_alloc_new _ _⟩,QaZ _ _⟩ (fun v W h=>⟨Qab r1_4 h.2,Qab r3_4 h.2⟩) fun vv10 W5 hh10=>?_
  obtain ⟨⟨g11,rfl,l11,r11_5⟩,e5⟩:=hh10
  have x5:GP base gc w W5:=GP.ext x4 e5
  have b11:w.heap.size≤g11:=qT x4.size l11
  have r1_5:=(Qab r1_4 e5)
  have r3_5:=(Qab r3_4 e5)
  refine Wm.wm_run 9 kj rfl (fun v W'=>(∃ g,v=.slice (some ⟨g,0,none⟩) 1 1∧W5.heap.size≤g∧W'.heap[g]? = some (.cells #[.pointer (some ⟨g11,0,none⟩)] 73))∧Ext W5 W') 24 rfl kj ⟨.slice (some ⟨W5.heap.size,0,none⟩) 1 1,W5.alloc (.cells #[.pointer (some ⟨g11,0,none⟩)] 73),kj,⟨_,rfl,qR _,heap_alloc_new _ _⟩,QaZ _ _⟩ (fun v W h=>⟨Qab r1_5 h.2,Qab r3_5 h.2⟩) fun vv12 W6 hh12=>?_
  obtain ⟨⟨g13,rfl,l13,r13_6⟩,e6⟩:=hh12
  have x6:GP base gc w W6:=GP.ext x5 e6
  have r1_6:=(Qab r1_5 e6)
  have r3_6:=(Qab r3_5 e6)
  have r9_5:=(Qab hgm e5)
  have r9_6:=(Qab r9_5 e6)
  have r11_6:=(Qab r11_5 e6)
  have hv1:OwnR 73 base (cs.map fun p=>zai (some ⟨p.1,0,none⟩)) v0 W6:=OwnR.keep hv0 fun g hg=>by obtain ⟨-,cur,hc9⟩:=hv0.at hg; exact (zaZ (zaZ (zaZ (zaZ (zaZ (zaZ (zaY w) e1) e2) e3) e4) e5) e6).block g (Qas hc9)
  have hch1:ChSt g11 gm sec [] 0 [] W6:=QkC hsl hsb r11_6 r9_6
  refine Wm.wm_run 10 kj rfl (fun v W'=>OwnR 73 base ((cs.map fun p=>zai (some ⟨p.1,0,none⟩))++[.pointer (some ⟨g11,0,none⟩)]) v W'∧GP base gc W6 W'∧W'.heap[gc]? = some (.cells (#[v0]) 71)∧W'.heap[g3]? = some (.cells (ints .u8 (sec)) 29)) 25 rfl kj (appG (c:=1) (s:=.tmp 19) (x:=.tmp 24) (t:=69) rfl kj kj kj kj r13_6 rfl hv1 (by rw [zav]; omega) (qT hb x6.size) r1_6 (by decide) r3_6 (by decide)) (fun v W h=>h.2.2) fun u1 W7 hh14=>?_
  obtain ⟨hv2,q7,r1_7,r3_7⟩:=hh14
  have x7:GP base gc w W7:=GP.trans x6 q7
  have hch2:=hch1.gp q7 (by omega) (by omega)
  obtain ⟨ua,un,uc,rfl⟩:=OwnR.sl hv2
  refine Wm.wm_run 11 kj rfl (fun v W'=>v=.pointer (some ⟨gc,0,none⟩)∧Ext W7 W') 26 rfl kj ⟨_,_,kj,rfl,zaY _⟩ (fun v W h=>⟨Qab r1_7 h.2,Qab r3_7 h.2⟩) fun vv15 W8 hh15=>?_
  obtain ⟨rfl,e8⟩:=hh15
  have x8:GP base gc w W8:=GP.ext x7 e8
  have hv2_8:=OwnR.keep hv2 fun g hg=>by obtain ⟨-,cur,hc9⟩:=OwnR.at hv2 hg; exact e8.block g (Qas hc9)
  have hch2_8:=ChSt.ext hch2 e8
  refine Wm.wm_val 12 (.pointer (some ⟨gc,0,none⟩)) 27 rfl rfl kj kj (by decide) kj (fun _ _ _ h=>h) (fun W hR=>by kernel_rfl) ?_
  have r1_8:=(Qab r1_7 e8)
  have r3_8:=(Qab r3_7 e8)
  refine Wm.wm_store gc _ (#[.slice ua un uc]) 71 r1_8 kj kj rfl rfl kj (Qbe 69 _ _ gc 0 71 _ (.slice ua un uc) r1_8 rfl kj kj kj kj kj rfl) fun W9 p9 r1_9=>?_
  have x9:GP base gc w W9:=GP.putg x8 p9
  refine hK7 _ _ ?_
  refine wp_ret ?_
  repeat (first | with_reducible refine goR1 ?_ | with_reducible refine goR2 ?_)
  exact (show bodyPost _ _ _ .ret _ _ from ret0 rfl ⟨rfl,gr0 x8 r1_8 hv2_8 hch2_8 p9 r1_9 b11 lgm0 hgcl⟩)
theorem QnA (sec : List Int) (tc tq:TypeId) (w:World) (hc:w.heap[4]? = some (.cells (ints .u64 QaQ) tc)) (hq:w.heap[3]? = some (.cells (ints .u64 Qa6) tq)) (hsl:sec.length=32) (hsb:Qaj sec):Calls Tryd.prog 43 #[.agg (ints .u8 sec),.string Qkc] w (Ret w (.agg (ints .u8 (lftV sec)))):=by
  unfold lftV
  exact QgP sec Qkc tc tq w hc hq hsl hsb
theorem Qny (sec : List Int) (tc tq:TypeId) (w:World) (hc:w.heap[4]? = some (.cells (ints .u64 QaQ) tc)) (hq:w.heap[3]? = some (.cells (ints .u64 Qa6) tq)) (hsl:sec.length=32) (hsb:Qaj sec):Calls Tryd.prog 43 #[.agg (ints .u8 sec),.string Qhd] w (Ret w (.agg (ints .u8 (rgtV sec)))):=by
  unfold rgtV
  exact QgP sec Qhd tc tq w hc hq hsl hsb
theorem QmS (k : Nat) (base gc:Nat) (cs:List (Nat×Nat)) (sec:List Int) (x:Int) (tc tq:TypeId) (w:World) (hc:w.heap[4]? = some (.cells (ints .u64 QaQ) tc)) (hq:w.heap[3]? = some (.cells (ints .u64 Qa6) tq)) (hT:Seat.TabAt w) (hsl:sec.length=32) (hsb:Qaj sec) (hb:base≤w.heap.size) (hcn:cs.length+2^(k+1)≤1000) (hgs:GrS base gc cs w) (hltc:4<base) (hlts:3<base) (hltt:2<base) (hnec:4≠gc) (hnes:3≠gc) (hnet:2≠gc) (ih:∀ (cs:List (Nat×Nat)) (sec:List Int) (x:Int) (w:World),w.heap[4]? = some (.cells (ints .u64 QaQ) tc)→w.heap[3]? = some (.cells (ints .u64 Qa6) tq)→Seat.TabAt w→sec.length=32→Qaj sec→base≤w.heap.size→cs.length+2^k≤1000→GrS base gc cs w→lvOk k x=true→Calls Tryd.prog 31 #[.pointer (some ⟨gc,0,none⟩),.agg (ints .u8 sec),.int .i64 x] w (fun e W=>e=.returned (.tuple #[])∧GrR base gc cs sec k w W)) (hlv:lvOk (k+1) x=true):Calls Tryd.prog 31 #[.pointer (some ⟨gc,0,none⟩),.agg (ints .u8 sec),.int .i64 x] w (fun e W=>e=.returned (.tuple #[])∧GrR base gc cs sec (k+1) w W):=by
  have hgcl:gc<w.heap.size:=by obtain ⟨v0,hgc,-⟩:=hgs; exact Qas hgc
  have hk0:0≤Seat.kidL x:=by unfold lvOk at hlv; simp only [Bool.and_eq_true,decide_eq_true_eq] at hlv; exact hlv.1.1.2
  have hlv2:lvOk k (Seat.kidL x)=true∧lvOk k (Seat.kidR x)=true:=by rw [lvOk] at hlv; simp only [Bool.and_eq_true,decide_eq_true_eq] at hlv; exact ⟨hlv.1.2,hlv.2⟩
  rw [Nat.pow_succ] at hcn
  refine enter 38 [(0,.pointer (some ⟨gc,0,none⟩)),(1,.agg (ints .u8 (sec))),(2,.int .i64 x)] Tryd.func31 rfl rfl kj rfl ?_
  refine wp_seq_k fun K4 hK4=>?_
  refine Qad ?_
  refine Qam (ints .u8 (sec)) 29 4 rfl kj kj fun g5 W1 l5 e1 r5_1=>?_
  have x1:GP base gc w W1:=GP.ext (GP.refl base gc w) e1
  have b5:w.heap.size≤g5:=qT (GP.refl base gc w).size l5
  refine Qag ?_
  refine hK4 _ _ ?_
  refine wp_seq_k fun K6 hK6=>?_
  refine Qad ?_
  refine Qaa (.int .i64 x) 9 rfl kj kj ?_
  have ht1_7:=(hT.ext e1)
  refine Qat (.tuple #[.int .i64 (Seat.kidL x),.int .i64 (Seat.kidR x)]) 42 #[.int .i64 x] 10 rfl kj kj (Qld x (Qhw hlv) _ ht1_7) fun W2 e2=>?_
  have x2:GP base gc w W2:=GP.ext x1 e2
  refine Qaa (.tuple #[.int .i64 (Seat.kidL x),.int .i64 (Seat.kidR x)]) 8 rfl kj kj ?_
  refine Qaa (.int .i64 (Seat.kidL x)) 11 rfl kj kj ?_
  refine Qaa (.int .i64 (Seat.kidR x)) 12 rfl kj kj ?_
  refine Qaa (.int .i64 (Seat.kidL x)) 6 rfl kj kj ?_
  refine Qaa (.int .i64 (Seat.kidR x)) 7 rfl kj kj ?_
  refine Qag ?_
  refine hK6 _ _ ?_
  refine wp_seq_k fun K8 hK8=>?_
  refine wp_seq_k fun K9 hK9=>?_
  refine Qad ?_
  refine Qaa (.int .i64 (Seat.kidL x)) 13 rfl kj kj ?_
  refine Qaa (.bool false) 14 rfl kj (Qai (u:=.bool (decide ((Seat.kidL x)<0))) kj (congrArg zau (decide_eq_false (by omega)))) ?_
  refine Qag ?_
  refine hK9 _ _ ?_
  refine cond_false kj ?_
  refine wp_skip ?_
  refine hK8 _ _ ?_
  refine wp_seq_k fun K10 hK10=>?_
  refine Qad ?_
  refine Qaa (.pointer (some ⟨gc,0,none⟩)) 28 rfl kj kj ?_
  have r5_2:=(Qab r5_1 e2)
  refine Qaa (.agg (ints .u8 (sec))) 29 rfl kj (Qao 29 _ g5 29 _ _ r5_2 rfl kj kj (isz (n:=32) kj ((Qap _ _).trans hsl))) ?_
  have r2_1:=(Qab hc e1)
  have r2_2:=(Qab r2_1 e2)
  have r3_1:=(Qab hq e1)
  have r3_2:=(Qab r3_1 e2)
  refine Qat (.agg (ints .u8 (lftV sec))) 43 #[.agg (ints .u8 (sec)),.string Qkc] 30 rfl kj kj (QnA sec tc tq _ r2_2 r3_2 hsl hsb) fun W3 e3=>?_
  have x3:GP base gc w W3:=GP.ext x2 e3
  refine Qaa (.int .i64 (Seat.kidL x)) 31 rfl kj kj ?_
  have r2_3:=(Qab r2_2 e3)
  have r3_3:=(Qab r3_2 e3)
  have ht3_11:=((ht1_7.ext e2).ext e3)
  refine Qav (fun v W'=>v=.tuple #[]∧GrR base gc cs (lftV sec) k W3 W') 31 #[.pointer (some ⟨gc,0,none⟩),.agg (ints .u8 (lftV sec)),.int .i64 (Seat.kidL x)] 32 rfl kj kj ((ih cs (lftV sec) (Seat.kidL x) W3 r2_3 r3_3 ht3_11 (Qkv _) (Qip _) (qT hb x3.size) (by omega) (GrS.ext (GrS.ext (GrS.ext hgs e1) e2) e3) hlv2.1).mono (by rintro e w' ⟨rfl,h⟩; exact ⟨_,rfl,rfl,h⟩)) fun vv12 W4 hh12=>?_
  obtain ⟨rfl,q4,n1,l1,hg1,c1,d1,d2⟩:=hh12
  have xa:=x3
  have x4:GP base gc w W4:=GP.trans x3 q4
  refine Qag ?_
  refine hK10 _ _ ?_
  refine Qad ?_
  refine Qaa (.pointer (some ⟨gc,0,none⟩)) 33 rfl kj kj ?_
  have r5_3:=(Qab r5_2 e3)
  have r5_4:=(GP.row q4 r5_3 (by decide) (Ne.symm (zaw (qL hgcl b5))))
  refine Qaa (.agg (ints .u8 (sec))) 34 rfl kj (Qao 29 _ g5 29 _ _ r5_4 rfl kj kj (isz (n:=32) kj ((Qap _ _).trans hsl))) ?_
  have r2_4:=(GP.low q4 r2_3 hltc hnec)
  have r3_4:=(GP.low q4 r3_3 hlts hnes)
  refine Qat (.agg (ints .u8 (rgtV sec))) 43 #[.agg (ints .u8 (sec)),.string Qhd] 35 rfl kj kj (Qny sec tc tq _ r2_4 r3_4 hsl hsb) fun W5 e5=>?_
  have x5:GP base gc w W5:=GP.ext x4 e5
  refine Qaa (.int .i64 (Seat.kidR x)) 36 rfl kj kj ?_
  have r2_5:=(Qab r2_4 e5)
  have r3_5:=(Qab r3_4 e5)
  have ht5_13:=((Qmv ht3_11 q4 hltt hnet).ext e5)
  refine Qav (fun v W'=>v=.tuple #[]∧GrR base gc (cs++n1) (rgtV sec) k W5 W') 31 #[.pointer (some ⟨gc,0,none⟩),.agg (ints .u8 (rgtV sec)),.int .i64 (Seat.kidR x)] 37 rfl kj kj ((ih (cs++n1) (rgtV sec) (Seat.kidR x) W5 r2_5 r3_5 ht5_13 (Qkg _) (Qid _) (qT hb x5.size) (by rw [zac,l1]; omega) (GrS.ext hg1 e5) hlv2.2).mono (by rintro e w' ⟨rfl,h⟩; exact ⟨_,rfl,rfl,h⟩)) fun vv14 W6 hh14=>?_
  obtain ⟨rfl,hr2⟩:=hh14
  have q6:=hr2.1
  have x6:GP base gc w W6:=GP.trans x5 q6
  refine Qag ?_
  repeat (first | with_reducible refine goX1 ?_ | with_reducible refine goX2 ?_ | with_reducible refine goX3 ?_)
  exact (show bodyPost _ _ _ .normal _ _ from end0 rfl ⟨rfl,grS xa q4 l1 c1 d1 d2 (GP.ext (GP.refl base gc W4) e5) hr2 hgcl⟩)
theorem QmU (base gc:Nat) (tc tq:TypeId) (hltc:4<base) (hlts:3<base) (hltt:2<base) (hnec:4≠gc) (hnes:3≠gc) (hnet:2≠gc):∀ (k:Nat) (cs:List (Nat×Nat)) (sec:List Int) (x:Int) (w:World),w.heap[4]? = some (.cells (ints .u64 QaQ) tc)→w.heap[3]? = some (.cells (ints .u64 Qa6) tq)→Seat.TabAt w→sec.length=32→Qaj sec→base≤w.heap.size→cs.length+2^k≤1000→GrS base gc cs w→lvOk k x=true→Calls Tryd.prog 31 #[.pointer (some ⟨gc,0,none⟩),.agg (ints .u8 sec),.int .i64 x] w (fun e W=>e=.returned (.tuple #[])∧GrR base gc cs sec k w W)
  | 0,cs,sec,x,w,hc,hq,hT,hsl,hsb,hb,hcn,hgs,hlv=>QmT base gc cs sec x tc tq w hc hq hT hsl hsb hb (by omega) hgs hlv
  | k+1,cs,sec,x,w,hc,hq,hT,hsl,hsb,hb,hcn,hgs,hlv=>QmS k base gc cs sec x tc tq w hc hq hT hsl hsb hb hcn hgs hltc hlts hltt hnec hnes hnet (QmU base gc tc tq hltc hlts hltt hnec hnes hnet k) hlv
def NewR (sec : List Int) (k:Nat) (w:World) (v:Value) (W:World):Prop:=∃ (gc gl cap:Nat) (lp:Array Value) (ns:List (Nat×Nat)),v=.pointer (some ⟨gc,0,none⟩)∧w.heap.size≤gc∧ns.length=2^k∧W.heap[gc]? = some (.cells #[.slice (some ⟨gl,0,none⟩) (2^k) cap] 71)∧W.heap[gl]? = some (.cells lp 73)∧(∀ j p,ns[j]? = some p→lp[j]? = some (.pointer (some ⟨p.1,0,none⟩))∧ChSt p.1 p.2 (QcJ sec k j) [] 0 [] W∧w.heap.size≤p.1∧w.heap.size≤p.2)∧(ns.map Prod.fst).Nodup∧(ns.map Prod.snd).Nodup
theorem newR {sec : List Int} {k base gc:Nat} {w W1 W:World} (e:Ext w W1) (hb:base=W1.heap.size) (hl:w.heap.size≤gc) (h:GrR base gc [] sec k W1 W):NewR sec k w (.pointer (some ⟨gc,0,none⟩)) W:=by
  obtain ⟨q,ns,l,⟨v,h1,h2⟩,c,d1,d2⟩:=h
  rw [zax] at h2
  have hp:0<2^k:=zay (by decide)
  rcases h2.1.2 with ⟨-,q2⟩ | ⟨gl,cap,cur,rfl,q2,q3,q4,q5,q6,q7⟩
  · rw [zav,l] at q2; omega
  · rw [zav,l] at h1 q7
    refine ⟨gc,gl,cap,cur,ns,rfl,hl,l,h1,q3,fun j p hj=>?_,d1,d2⟩
    obtain ⟨a1,a2,a3⟩:=c j p hj
    have:=e.size
    refine ⟨?_,a1,by omega,by omega⟩
    have hjl:j<ns.length:=(zaz.1 hj).1
    rw [Nat.mul_one] at q7
    have e2:(cur.toList.take (2^k))[j]? = (ns.map fun p=>zai (some ⟨p.1,0,none⟩))[j]?:=by rw [q7]
    rw [List.getElem?_take_of_lt (by omega),List.getElem?_map,hj] at e2
    rw [←za0]
    exact e2
theorem QmV {gc : Nat} {w W1 W:World} (e:Ext w W1) (q:GP W1.heap.size gc W1 W) (hg:w.heap.size≤gc):Ext w W:=⟨q.os.trans e.os,q.tape.trans e.tape,q.output.trans e.output,qT e.size q.size,fun k hk=>(q.block k (qL hk e.size) (by omega) (.inl (qL hk e.size))).trans (e.block k hk)⟩
theorem Qm4 (k : Nat) (hk:k≤5) (W:World):Calls Tryd.prog 15 #[.int .i64 ((2^k:Nat):Int)] W (Ret W (.int .i64 (((2^k:Nat):Int)-1))) :=
  (Seat.root ((2^k:Nat):Int) W).mono fun e W' hh=>by
    have hh':e=.returned (.int .i64 (if Seat.isTree ((2^k:Nat):Int)=true then ((2^k:Nat):Int)-1 else -1))∧W=W':=hh
    rw [if_pos ((by decide +kernel:∀ k:Fin 6,Seat.isTree ((2^k.val:Nat):Int)=true) ⟨k,by omega⟩)] at hh'
    exact ⟨hh'.1,hh'.2▸zaY _⟩
theorem newC (k : Nat) (hk:k≤5) (sec:List Int) (tc tq:TypeId) (w:World) (hc:w.heap[4]? = some (.cells (ints .u64 QaQ) tc)) (hq:w.heap[3]? = some (.cells (ints .u64 Qa6) tq)) (hT:Seat.TabAt w) (hsl:sec.length=32) (hsb:Qaj sec):Calls Tryd.prog 17 #[.agg (ints .u8 sec),.int .i64 ((2^k:Nat):Int)] w (QbD w (NewR sec k w)):=by
  refine enter 18 [(0,.agg (ints .u8 (sec))),(1,.int .i64 ((2^k:Nat):Int))] Tryd.func17 rfl rfl kj rfl ?_
  refine wp_seq_k fun K3 hK3=>?_
  refine Qad ?_
  refine Qam (ints .u8 (sec)) 29 2 rfl kj kj fun g4 W1 l4 e1 r4_1=>?_
  have x1:Ext w W1:=zbb (zaY w) e1
  have b4:w.heap.size≤g4:=qT (zaY w).size l4
  refine Qaa (.pointer none) 4 rfl kj kj ?_
  refine Qag ?_
  refine hK3 _ _ ?_
  refine wp_seq_k fun K5 hK5=>?_
  refine Qad ?_
  refine Qaa (.agg (#[.slice none 0 0])) 7 rfl kj kj ?_
  refine Qam (#[.slice none 0 0]) 71 8 rfl kj kj fun g6 W2 l6 e2 r6_2=>?_
  have x2:Ext w W2:=zbb x1 e2
  have b6:w.heap.size≤g6:=qT x1.size l6
  refine Qaa (.pointer (some ⟨g6,0,none⟩)) 5 rfl kj kj ?_
  refine Qag ?_
  refine hK5 _ _ ?_
  refine wp_seq_k fun K7 hK7=>?_
  refine wp_seq_k fun K8 hK8=>?_
  refine Qad ?_
  refine Qaa (.int .i64 ((2^k:Nat):Int)) 9 rfl kj kj ?_
  refine Qat (.int .i64 (((2^k:Nat):Int)-1)) 15 #[.int .i64 ((2^k:Nat):Int)] 10 rfl kj kj ((Qm4 k hk) _) fun W3 e3=>?_
  have x3:Ext w W3:=zbb x2 e3
  refine Qaa (.int .i64 (((2^k:Nat):Int)-1)) 6 rfl kj kj ?_
  refine Qag ?_
  refine hK8 _ _ ?_
  refine wp_seq_k fun K9 hK9=>?_
  refine Qad ?_
  refine Qaa (.int .i64 (((2^k:Nat):Int)-1)) 11 rfl kj kj ?_
  refine Qaa (.bool true) 12 rfl kj (Qai (u:=.bool (decide ((((2^k:Nat):Int)-1)≥0))) kj (congrArg zau (decide_eq_true (by have:0<2^k:=zay (by decide); omega)))) ?_
  refine Qag ?_
  refine hK9 _ _ ?_
  refine cond_true kj ?_
  refine Qad ?_
  refine Qaa (.pointer (some ⟨g6,0,none⟩)) 13 rfl kj kj ?_
  have r4_2:=(Qab r4_1 e2)
  have r4_3:=(Qab r4_2 e3)
  refine Qaa (.agg (ints .u8 (sec))) 14 rfl kj (Qao 29 _ g4 29 _ _ r4_3 rfl kj kj (isz (n:=32) kj ((Qap _ _).trans hsl))) ?_
  refine Qaa (.int .i64 (((2^k:Nat):Int)-1)) 15 rfl kj kj ?_
  have r1_1:=(Qab hc e1)
  have r1_2:=(Qab r1_1 e2)
  have r1_3:=(Qab r1_2 e3)
  have r2_1:=(Qab hq e1)
  have r2_2:=(Qab r2_1 e2)
  have r2_3:=(Qab r2_2 e3)
  have r6_3:=(Qab r6_2 e3)
  refine Qav (fun v W'=>v=.tuple #[]∧GrR W3.heap.size g6 [] sec k W3 W') 31 #[.pointer (some ⟨g6,0,none⟩),.agg (ints .u8 (sec)),.int .i64 (((2^k:Nat):Int)-1)] 16 rfl kj kj ((QmU W3.heap.size g6 tc tq (Qas r1_3) (Qas r2_3) (hT.ext x3).1 (by have:=Qas hc; have:=b6; omega) (by have:=Qas hq; have:=b6; omega) (by have:=hT.1; have:=b6; omega) k [] sec (((2^k:Nat):Int)-1) W3 r1_3 r2_3 (hT.ext x3) hsl hsb (qR _) (by have:2^k≤2^5:=Nat.pow_le_pow_right (by decide) (by omega); simp only [List.length_nil]; omega) ⟨_,r6_3,⟨⟨rfl,.inl ⟨rfl,rfl⟩⟩,za1 _⟩⟩ (Qjj ⟨k,by omega⟩)).mono (by rintro e w' ⟨rfl,h⟩; exact ⟨_,rfl,rfl,h⟩)) fun vv10 W4 hh10=>?_
  obtain ⟨rfl,hgr⟩:=hh10
  have x4:Ext w W4:=QmV x3 hgr.1 b6
  refine Qag ?_
  refine hK7 _ _ ?_
  refine wp_seq_k fun K11 hK11=>?_
  refine Qad ?_
  refine Qaa (.pointer (some ⟨g6,0,none⟩)) 17 rfl kj kj ?_
  refine Qaa (.pointer (some ⟨g6,0,none⟩)) 4 rfl kj kj ?_
  refine Qag ?_
  refine hK11 _ _ ?_
  refine wp_ret ?_
  repeat (first | with_reducible refine goR1 ?_ | with_reducible refine goR2 ?_)
  exact (show bodyPost _ _ _ .ret _ _ from ret1 (.pointer (some ⟨g6,0,none⟩)) rfl (Qa0 kj) ⟨_,rfl,x4,newR x3 rfl b6 hgr⟩)
end Cn
end
section
namespace Pk
open Go Go.RowKit
open Rely Auto Own Sha
open Cha
open Ae hiding run_storeQ
theorem QdK (w : World):Calls Tryd.prog 16 #[.pointer none] w (Ret w (.pointer none)):=by
  refine enter 24 [(0,.pointer none)] Tryd.func16 rfl rfl kj rfl ?_
  refine wp_seq_k fun K1 hK1=>?_
  refine Qad ?_
  refine Qaa (.pointer none) 2 rfl kj kj ?_
  refine Qag ?_
  refine hK1 _ _ ?_
  refine wp_seq_k fun K2 hK2=>?_
  refine wp_seq_k fun K3 hK3=>?_
  refine Qad ?_
  refine Qaa (.pointer none) 3 rfl kj kj ?_
  refine Qaa (.bool true) 4 rfl kj kj ?_
  refine Qaa (.bool true) 5 rfl kj kj ?_
  refine Qbi 6 rfl kj ?_
  refine Qbi 7 rfl kj ?_
  refine Qbi 8 rfl kj ?_
  refine Qbi 9 rfl kj ?_
  refine Qbi 10 rfl kj ?_
  refine Qbi 11 rfl kj ?_
  refine Qaa (.bool true) 12 rfl kj kj ?_
  refine Qag ?_
  refine hK3 _ _ ?_
  refine cond_true kj ?_
  refine wp_seq_k fun K4 hK4=>?_
  refine Qad ?_
  refine Qaa (.pointer none) 2 rfl kj kj ?_
  refine Qag ?_
  refine hK4 _ _ ?_
  refine wp_ret ?_
  exact (show bodyPost _ _ _ .ret _ _ from ret1 (.pointer none) rfl (Qa0 kj) ⟨rfl,(zaY w)⟩)
theorem QlR (w : World):Calls Tryd.prog 11 #[.pointer none] w (Ret w (.tuple #[])):=by
  refine enter 7 [(0,.pointer none)] Tryd.func11 rfl rfl kj rfl ?_
  refine wp_seq_k fun K1 hK1=>?_
  refine Qad ?_
  refine Qaa (.pointer none) 2 rfl kj kj ?_
  refine Qaa (.bool false) 3 rfl kj kj ?_
  refine Qag ?_
  refine hK1 _ _ ?_
  refine cond_false kj ?_
  refine wp_skip ?_
  repeat (first | with_reducible refine goX1 ?_ | with_reducible refine goX2 ?_ | with_reducible refine goX3 ?_)
  exact (show bodyPost _ _ _ .normal _ _ from end0 rfl ⟨rfl,(zaY w)⟩)
theorem Qk5 (w : World):Calls Tryd.prog 12 #[.pointer none] w (Ret w (.slice none 0 0)):=by
  refine enter 24 [(0,.pointer none)] Tryd.func12 rfl rfl kj rfl ?_
  refine wp_seq_k fun K1 hK1=>?_
  refine Qad ?_
  refine Qaa (.slice none 0 0) 2 rfl kj kj ?_
  refine Qag ?_
  refine hK1 _ _ ?_
  refine wp_seq_k fun K2 hK2=>?_
  refine wp_seq_k fun K3 hK3=>?_
  refine Qad ?_
  refine Qaa (.pointer none) 6 rfl kj kj ?_
  refine Qaa (.bool true) 7 rfl kj kj ?_
  refine Qag ?_
  refine hK3 _ _ ?_
  refine cond_true kj ?_
  refine wp_seq_k fun K4 hK4=>?_
  refine Qad ?_
  refine Qaa (.slice none 0 0) 2 rfl kj kj ?_
  refine Qag ?_
  refine hK4 _ _ ?_
  refine wp_ret ?_
  exact (show bodyPost _ _ _ .ret _ _ from ret1 (.slice none 0 0) rfl (Qa0 kj) ⟨rfl,(zaY w)⟩)
theorem Ql0 (w : World):Calls Tryd.prog 13 #[.pointer none] w (Ret w (.int .i64 0)):=by
  refine enter 17 [(0,.pointer none)] Tryd.func13 rfl rfl kj rfl ?_
  refine wp_seq_k fun K1 hK1=>?_
  refine Qad ?_
  refine Qaa (.int .i64 0) 2 rfl kj kj ?_
  refine Qag ?_
  refine hK1 _ _ ?_
  refine wp_seq_k fun K2 hK2=>?_
  refine Qad ?_
  refine Qaa (.pointer none) 4 rfl kj kj ?_
  refine Qat (.pointer none) 16 #[.pointer none] 5 rfl kj kj ((QdK) _) fun W1 e1=>?_
  have x1:Ext w W1:=zbb (zaY w) e1
  refine Qaa (.pointer none) 3 rfl kj kj ?_
  refine Qag ?_
  refine hK2 _ _ ?_
  refine wp_seq_k fun K3 hK3=>?_
  refine wp_seq_k fun K4 hK4=>?_
  refine Qad ?_
  refine Qaa (.pointer none) 6 rfl kj kj ?_
  refine Qaa (.bool true) 7 rfl kj kj ?_
  refine Qag ?_
  refine hK4 _ _ ?_
  refine cond_true kj ?_
  refine wp_seq_k fun K5 hK5=>?_
  refine Qad ?_
  refine Qaa (.int .i64 0) 2 rfl kj kj ?_
  refine Qag ?_
  refine hK5 _ _ ?_
  refine wp_ret ?_
  exact (show bodyPost _ _ _ .ret _ _ from ret1 (.int .i64 0) rfl (Qa0 kj) ⟨rfl,x1⟩)
theorem QlE (n : Int) (w:World):Calls Tryd.prog 14 #[.pointer none,.int .i64 n] w (Ret w (.bool false)):=by
  refine enter 22 [(0,.pointer none),(1,.int .i64 n)] Tryd.func14 rfl rfl kj rfl ?_
  refine wp_seq_k fun K1 hK1=>?_
  refine Qad ?_
  refine Qaa (.bool false) 4 rfl kj kj ?_
  refine Qag ?_
  refine hK1 _ _ ?_
  refine wp_seq_k fun K2 hK2=>?_
  refine Qad ?_
  refine Qaa (.pointer none) 6 rfl kj kj ?_
  refine Qat (.pointer none) 16 #[.pointer none] 7 rfl kj kj ((QdK) _) fun W1 e1=>?_
  have x1:Ext w W1:=zbb (zaY w) e1
  refine Qaa (.pointer none) 5 rfl kj kj ?_
  refine Qag ?_
  refine hK2 _ _ ?_
  refine wp_seq_k fun K3 hK3=>?_
  refine QaU 14 [⟨none,[(5,none)]⟩,⟨none,[(8,some 0)]⟩,⟨none,[(9,some 1)]⟩,⟨some (10,true),[(5,none),(10,some 2)]⟩,⟨some (10,true),[(11,some 3),(10,some 2)]⟩,⟨some (10,true),[(12,some 4),(10,some 2)]⟩,⟨some (10,true),[(13,some 5),(10,some 2)]⟩,⟨some (10,true),[(5,none),(10,some 2)]⟩,⟨some (10,true),[(15,some 7),(10,some 2)]⟩,⟨some (10,true),[(16,some 8),(10,some 2)]⟩,⟨some (10,true),[(17,some 9),(10,some 2)]⟩,⟨some (10,true),[(1,none),(10,some 2)]⟩,⟨some (10,true),[(14,some 6),(18,some 10),(19,some 11),(10,some 2)]⟩,⟨none,[(10,some 2),(20,some 12)]⟩] kj kj fun F hF=>?_
  refine Qar (.pointer none) kj kj (fun W=>by kernel_rfl) ?_
  refine Qar (.bool false) kj kj (fun W=>by kernel_rfl) ?_
  refine Qar (.bool false) kj kj (fun W=>by kernel_rfl) ?_
  refine Qbb kj kj ?_
  refine Qbb kj kj ?_
  refine Qbb kj kj ?_
  refine Qbb kj kj ?_
  refine Qbb kj kj ?_
  refine Qbb kj kj ?_
  refine Qbb kj kj ?_
  refine Qbb kj kj ?_
  refine Qbb kj kj ?_
  refine Qbb kj kj ?_
  refine Qar (.bool false) kj kj (fun W=>by kernel_rfl) ?_
  refine Qbd (hF _ kj fun W2 e2=>?_)
  simp only [ups,up,Kn.val,za2,za3,za4,za5,zax,za6]
  clear hF
  have x2:Ext w W2:=zbb x1 e2
  refine Qaa (.bool false) 4 rfl kj kj ?_
  refine Qag ?_
  refine hK3 _ _ ?_
  refine wp_ret ?_
  exact (show bodyPost _ _ _ .ret _ _ from ret1 (.bool false) rfl (Qa0 kj) ⟨rfl,x2⟩)
theorem QlN (grp sec:List Int) (hgl:grp.length=32) (hsl:sec.length=32) (n l f:Int) (w:World):Calls Tryd.prog 7 #[.pointer none,.agg (ints .u8 grp),.int .i64 n,.agg (ints .u8 sec),.int .i64 l,.int .i64 f] w (Ret w (.iface 41 (.int .i64 10))):=by
  refine enter 94 [(0,.pointer none),(1,.agg (ints .u8 (grp))),(2,.int .i64 n),(3,.agg (ints .u8 (sec))),(4,.int .i64 l),(5,.int .i64 f)] Tryd.func7 rfl rfl kj rfl ?_
  refine wp_seq_k fun K1 hK1=>?_
  refine Qad ?_
  refine Qam (ints .u8 (grp)) 29 7 rfl kj kj fun g2 W1 l2 e1 r2_1=>?_
  have x1:Ext w W1:=zbb (zaY w) e1
  have b2:w.heap.size≤g2:=qT (zaY w).size l2
  refine Qam (ints .u8 (sec)) 29 9 rfl kj kj fun g3 W2 l3 e2 r3_2=>?_
  have x2:Ext w W2:=zbb x1 e2
  have b3:w.heap.size≤g3:=qT x1.size l3
  refine Qaa (.nilIface) 12 rfl kj kj ?_
  refine Qag ?_
  refine hK1 _ _ ?_
  refine wp_seq_k fun K4 hK4=>?_
  refine wp_seq_k fun K5 hK5=>?_
  refine Qad ?_
  refine Qaa (.pointer none) 14 rfl kj kj ?_
  refine Qaa (.bool true) 15 rfl kj kj ?_
  refine Qaa (.bool true) 16 rfl kj kj ?_
  refine Qbi 17 rfl kj ?_
  refine Qbi 18 rfl kj ?_
  refine Qbi 19 rfl kj ?_
  refine Qbi 20 rfl kj ?_
  refine Qaa (.bool true) 21 rfl kj kj ?_
  refine Qag ?_
  refine hK5 _ _ ?_
  refine cond_true kj ?_
  refine wp_seq_k fun K6 hK6=>?_
  refine Qad ?_
  refine Qaa (.iface 41 (.int .i64 10)) 22 rfl kj kj ?_
  refine Qaa (.iface 41 (.int .i64 10)) 12 rfl kj kj ?_
  refine Qag ?_
  refine hK6 _ _ ?_
  refine wp_ret ?_
  exact (show bodyPost _ _ _ .ret _ _ from ret1 (.iface 41 (.int .i64 10)) rfl (Qa0 kj) ⟨rfl,x2⟩)
theorem Qmy (a_t : Option Addr) (n_t c_t:Nat) (w:World):Calls Tryd.prog 8 #[.pointer none,.slice a_t n_t c_t] w (Ret w (.tuple #[.agg (cat [ints .u8 (zam 32 0),#[.int .i64 0],#[.int .i64 0],#[.int .i64 0],#[.slice none 0 0]]),.iface 41 (.int .i64 10)])):=by
  refine enter 69 [(0,.pointer none),(1,.slice a_t n_t c_t)] Tryd.func8 rfl rfl kj rfl ?_
  refine wp_seq_k fun K1 hK1=>?_
  refine Qad ?_
  refine Qam (cat [ints .u8 (zam 32 0),#[.int .i64 0],#[.int .i64 0],#[.int .i64 0],#[.slice none 0 0]]) 35 4 rfl kj kj fun g2 W1 l2 e1 r2_1=>?_
  have x1:Ext w W1:=zbb (zaY w) e1
  have b2:w.heap.size≤g2:=qT (zaY w).size l2
  refine Qaa (.nilIface) 5 rfl kj kj ?_
  refine Qag ?_
  refine hK1 _ _ ?_
  refine wp_seq_k fun K3 hK3=>?_
  refine Qad ?_
  refine Qaa (.pointer none) 10 rfl kj kj ?_
  refine Qat (.pointer none) 16 #[.pointer none] 11 rfl kj kj ((QdK) _) fun W2 e2=>?_
  have x2:Ext w W2:=zbb x1 e2
  refine Qaa (.pointer none) 6 rfl kj kj ?_
  refine Qag ?_
  refine hK3 _ _ ?_
  refine wp_seq_k fun K4 hK4=>?_
  refine wp_seq_k fun K5 hK5=>?_
  refine Qad ?_
  refine Qaa (.pointer none) 12 rfl kj kj ?_
  refine Qaa (.bool true) 13 rfl kj kj ?_
  refine Qag ?_
  refine hK5 _ _ ?_
  refine cond_true kj ?_
  refine wp_seq_k fun K6 hK6=>?_
  refine Qad ?_
  refine Qaa (.agg (cat [ints .u8 (zam 32 0),#[.int .i64 0],#[.int .i64 0],#[.int .i64 0],#[.slice none 0 0]])) 14 rfl kj kj ?_
  refine Qaa (.iface 41 (.int .i64 10)) 15 rfl kj kj ?_
  have r2_2:=(Qab r2_1 e2)
  refine Qak g2 _ (cat [ints .u8 (zam 32 0),#[.int .i64 0],#[.int .i64 0],#[.int .i64 0],#[.slice none 0 0]]) 35 r2_2 rfl kj (Qal 35 _ _ g2 35 _ _ r2_2 rfl kj kj (isz (n:=36) kj (by rw [Qac,Qac,Qac,Qac,Qac]; simp only [qS,cat,((Qap _ _).trans (qZ (n:=32)))]; rfl)) (eqsz (n:=36) (by rw [Qac,Qac,Qac,Qac,Qac]; simp only [qS,cat,((Qap _ _).trans (qZ (n:=32)))]; rfl) (by rw [Qac,Qac,Qac,Qac,Qac]; simp only [qS,cat,((Qap _ _).trans (qZ (n:=32)))]; rfl)) (Qbu _ (by intro a ha; simp only [za7,zal,or_false] at ha; rcases ha with rfl | rfl | rfl | rfl | rfl; exact (Qay _ _); exact (Qa9 _ rfl); exact (Qa9 _ rfl); exact (Qa9 _ rfl); exact (Qa9 _ rfl)))) fun W3 p3 r2_3=>?_
  have x3:Ext w W3:=Puts.ext p3 x2 b2
  refine Qaa (.iface 41 (.int .i64 10)) 5 rfl kj kj ?_
  refine Qag ?_
  refine hK6 _ _ ?_
  refine wp_ret ?_
  exact (show bodyPost _ _ _ .ret _ _ from ret2 (.agg (cat [ints .u8 (zam 32 0),#[.int .i64 0],#[.int .i64 0],#[.int .i64 0],#[.slice none 0 0]])) (.iface 41 (.int .i64 10)) rfl (QaJ g2 35 _ r2_3 kj kj (isz (n:=36) kj (by rw [Qac,Qac,Qac,Qac,Qac]; simp only [qS,cat,((Qap _ _).trans (qZ (n:=32)))]; rfl))) (Qa0 kj) ⟨rfl,x3⟩)
theorem Qm9 (grp : List Int) (hgl:grp.length=32) (ep fr no:Int) (a_t:Option Addr) (n_t c_t:Nat) (w:World):Calls Tryd.prog 9 #[.pointer none,.agg (cat [ints .u8 grp,#[.int .i64 ep],#[.int .i64 fr],#[.int .i64 no],#[.slice a_t n_t c_t]])] w (Ret w (.tuple #[.slice none 0 0,.iface 41 (.int .i64 10)])):=by
  refine enter 91 [(0,.pointer none),(1,.agg (cat [ints .u8 (grp),#[.int .i64 ep],#[.int .i64 fr],#[.int .i64 no],#[.slice a_t n_t c_t]]))] Tryd.func9 rfl rfl kj rfl ?_
  refine wp_seq_k fun K1 hK1=>?_
  refine Qad ?_
  refine Qam (cat [ints .u8 (grp),#[.int .i64 ep],#[.int .i64 fr],#[.int .i64 no],#[.slice a_t n_t c_t]]) 35 3 rfl kj kj fun g2 W1 l2 e1 r2_1=>?_
  have x1:Ext w W1:=zbb (zaY w) e1
  have b2:w.heap.size≤g2:=qT (zaY w).size l2
  refine Qaa (.slice none 0 0) 4 rfl kj kj ?_
  refine Qaa (.nilIface) 5 rfl kj kj ?_
  refine Qag ?_
  refine hK1 _ _ ?_
  refine wp_seq_k fun K3 hK3=>?_
  refine wp_seq_k fun K4 hK4=>?_
  refine Qad ?_
  refine Qaa (.pointer none) 14 rfl kj kj ?_
  refine Qat (.pointer none) 16 #[.pointer none] 15 rfl kj kj ((QdK) _) fun W2 e2=>?_
  have x2:Ext w W2:=zbb x1 e2
  refine Qaa (.bool true) 16 rfl kj kj ?_
  refine Qag ?_
  refine hK4 _ _ ?_
  refine cond_true kj ?_
  refine wp_seq_k fun K5 hK5=>?_
  refine Qad ?_
  refine Qaa (.iface 41 (.int .i64 10)) 17 rfl kj kj ?_
  refine Qaa (.slice none 0 0) 4 rfl kj kj ?_
  refine Qaa (.iface 41 (.int .i64 10)) 5 rfl kj kj ?_
  refine Qag ?_
  refine hK5 _ _ ?_
  refine wp_ret ?_
  exact (show bodyPost _ _ _ .ret _ _ from ret2 (.slice none 0 0) (.iface 41 (.int .i64 10)) rfl (Qa0 kj) (Qa0 kj) ⟨rfl,x2⟩)
theorem newB (w : World):Calls Tryd.prog 6 #[] w (QbD w (fun v W=>∃ g,v=.pointer (some ⟨g,0,none⟩)∧w.heap.size≤g∧W.heap[g]? = some (.cells (cat [#[.slice none 0 0],#[.bool false]]) 49))):=by
  refine enter 3 [] Tryd.func6 rfl rfl kj rfl ?_
  refine wp_seq_k fun K1 hK1=>?_
  refine Qad ?_
  refine Qaa (.pointer none) 0 rfl kj kj ?_
  refine Qag ?_
  refine hK1 _ _ ?_
  refine wp_seq_k fun K2 hK2=>?_
  refine Qad ?_
  refine Qaa (.agg (cat [#[.slice none 0 0],#[.bool false]])) 1 rfl kj kj ?_
  refine Qam (cat [#[.slice none 0 0],#[.bool false]]) 49 2 rfl kj kj fun g3 W1 l3 e1 r3_1=>?_
  have x1:Ext w W1:=zbb (zaY w) e1
  have b3:w.heap.size≤g3:=qT (zaY w).size l3
  refine Qaa (.pointer (some ⟨g3,0,none⟩)) 0 rfl kj kj ?_
  refine Qag ?_
  refine hK2 _ _ ?_
  refine wp_ret ?_
  exact (show bodyPost _ _ _ .ret _ _ from ret1 (.pointer (some ⟨g3,0,none⟩)) rfl (Qa0 kj) ⟨_,rfl,x1,g3,rfl,b3,r3_1⟩)
end Pk
end
section
namespace Pk
open Go Go.RowKit
open Rely Auto Own Sha
open Cha
open Ae hiding run_storeQ
open Cn
theorem Qll {P : Program} {ρ:Operand→Value} {o:Oper} {w:World} (t e:TypeId) (sz:Nat) (x:Operand) (v:Value) (ho:o.op=.buildSlice t 1 #[(0,x)]) (hx:ρ x=v) (hu:P.underlying t=some (.slice e)) (hs:(P.info? e).map (·.size)=some sz) (hz:((P.info? e).bind (·.zero)).isSome=true) (hv:v.cells.size=sz) (h0:0<sz) (hl:sz≤2^24) :
    (execOp ρ o).run P w=.ok (.value (.slice (some ⟨w.heap.size,0,none⟩) 1 1)) (w.alloc (.cells v.cells e)):=by
  cases hie:P.info? e with
  | none=>simp [hie] at hs
  | some ie =>
    simp only [hie,zaa,Option.some.injEq,Option.bind_some] at hs hz
    obtain ⟨z,hzz⟩:=Option.isSome_iff_exists.1 hz
    subst hx
    have hf:Instr.fill (fun i=>some (i*ie.size,ie.size)) ((Array.range (1*ie.size)).map (z.cells[·%z.cells.size]!)) (Array.map (fun p:Nat×Operand=>(p.1,ρ p.2)) #[(0,x)]).toList=some (ρ x).cells:=by
      have:=QfB (fun i=>some (i*ie.size,ie.size)) [(0,ie.size,ρ x,(ρ x).cells)] [] ((Array.range (1*ie.size)).map (z.cells[·%z.cells.size]!)) 0 rfl ⟨by simp,rfl,by rw [hv,hs],trivial⟩ (by simp [tot])
      simpa [cat] using this
    have hr:=run_buildSlice w t e 1 (Array.map (fun p:Nat×Operand=>(p.1,ρ p.2)) #[(0,x)]) (ρ x).cells ie z hu hie hzz (by rw [hs]; omega) (by rw [hs]; omega) hf
    unfold execOp
    simp only [ho,zad]
    rw [hr]
    rfl
structure Ep where
  gc:Nat
  grp:List Int
  num:Int
  leaf:Int
def epP (e : Ep):List (Array Value):=[#[.pointer (some ⟨e.gc,0,none⟩)],ints .u8 e.grp,#[.int .i64 e.num],#[.int .i64 e.leaf]]
theorem QfC (e : Ep) (h:e.grp.length=32):(cat (epP e)).size=35:=by
  unfold epP
  rw [Qac,Qac,Qac,Qac]
  simp only [qS,cat,(Qap _ _).trans h]
  rfl
theorem QlM (e : Ep):∀ u∈(cat (epP e)).toList,u.oneCell'=true:=by
  intro u hu
  unfold epP at hu
  simp only [cat,Array.toList_append,ints,za8,zas,za7,zal,or_false] at hu
  rcases hu with rfl | ⟨x,-,rfl⟩ | rfl | rfl <;> rfl
theorem Qm2 {ρ : Operand→Value} {o:Oper} {W:World} (a b c d:Operand) (e:Ep) (ho:o.op=.build 55 #[(0,a),(1,b),(2,c),(3,d)]) (ha:ρ a=.pointer (some ⟨e.gc,0,none⟩)) (hb:ρ b=.agg (ints .u8 e.grp)) (hc:ρ c=.int .i64 e.num) (hd:ρ d=.int .i64 e.leaf) (hl:e.grp.length=32) :
    (execOp ρ o).run Tryd.prog W=.ok (.value (.agg (cat (epP e)))) W :=
  Qfb 55 _ (.agg (cat [#[.pointer none],ints .u8 (zam 32 0),#[.int .i64 0],#[.int .i64 0]])) #[(0,1),(1,32),(33,1),(34,1)] [(0,1,.pointer (some ⟨e.gc,0,none⟩),#[.pointer (some ⟨e.gc,0,none⟩)]),(1,32,.agg (ints .u8 (e.grp)),ints .u8 (e.grp)),(2,1,.int .i64 e.num,#[.int .i64 e.num]),(3,1,.int .i64 e.leaf,#[.int .i64 e.leaf])] ho (by simp [ha,hb,hc,hd]) ⟨kj,rfl,kj,kj,rfl,((Qap _ _).trans hl),kj,rfl,kj,kj,rfl,kj,trivial⟩ kj kj kj kj
structure OwE (base : Nat) (es : List Ep) (v : Value) (W : World) : Prop where
  row:W.ownsRow base 55 35 v es.length (es.flatMap fun e=>(cat (epP e)).toList)
  len:∀ e∈es,e.grp.length=32
theorem OwE.nil (base : Nat) (W:World):OwE base [] (.slice none 0 0) W:=⟨World.ownsRow_nil W base 55 35,fun n hn=>by cases hn⟩
theorem OwE.ext {base : Nat} {es:List Ep} {v:Value} {W W':World} (h:OwE base es v W) (e:Ext W W'):OwE base es v W' :=
  ⟨h.row.kept (row:=none) ⟨e.os,e.tape,e.output,e.size,fun k hk _=>e.block k hk⟩ (by cases e:v.ownBlock with
    | none=>exact .inl rfl
    | some k=>exact .inr fun e2=>by cases e2),h.len⟩
theorem OwE.app {P : Program} {ρ:Operand→Value} {o:Oper} {W:World} (b:Nat) (s x:Operand) (t:TypeId) (ho:o.op=.call { callee:=.builtin .append,args:=#[s,x],argTypes:=#[t,t] }) (ht:P.underlying t=some (.slice 55))
    (hi:(P.info? 55).map (fun i=>(i.zero.map (·.cells.size),i.size,i.bytes))=some (some 35,35,b)) (hb8:b≤1000) {base g:Nat} {v:Value} {es:List Ep} {e:Ep} (hs:ρ s=v) (hx:ρ x=.slice (some ⟨g,0,none⟩) 1 1)
    (h:OwE base es v W) (he:e.grp.length=32) (hrow:W.heap[g]? = some (.cells (cat (epP e)) 55)) (hl:es.length≤1000) (hbase:base≤W.heap.size) :
    ∃ v' W',(execOp ρ o).run P W=.ok (.value v') W'∧OwE base (es++[e]) v' W'∧W.grownBy W' v.ownBlock:=by
  obtain ⟨i,hq,z,hz,hzs,hi2,hi3⟩:∃ i,P.info? 55=some i∧∃ z,i.zero=some z∧z.cells.size=35∧i.size=35∧i.bytes=b:=by
    cases hq:P.info? 55 with
    | none=>rw [hq] at hi; cases hi
    | some i =>
      rw [hq] at hi
      simp only [zaa,Option.some.injEq,Prod.mk.injEq] at hi
      obtain ⟨z,hz,hzs⟩:=Option.map_eq_some_iff.1 hi.1
      exact ⟨i,rfl,z,hz,hzs,hi.2.1,hi.2.2⟩
  have hsz:=QfC e he
  obtain ⟨v',W',hr,h2,h3,-,-⟩:=run_append_own_at (P:=P) W base t o.type 55 i z 35 b ht hq hz hi2 hi3 hzs (by decide) v es.length _ h.row ⟨g,0,none⟩ 1 1 (cat (epP e)).toList (by rw [Array.length_toList,hsz])
    (fun j u hu=>by
      rw [WideShapes.add_plain,za9]
      unfold World.cell?
      simp only [hrow]
      rw [za0] at hu
      rw [←hu]; rfl) (QlM e) (by simp only [maxLen]; omega) (by
        have:(es.length+1)*b≤1001*1000:=Nat.mul_le_mul (by omega) hb8
        omega) hbase
  refine ⟨v',W',?_,⟨?_,?_⟩,h3⟩
  · unfold execOp
    simp only [ho,resolve,invoke,builtin,zad,zae,zaf,zag,zah,List.map_nil,hs,hx,hr]
  · rw [zac,List.flatMap_append]
    simpa using h2
  · intro m hm
    rcases za8.1 hm with h1 | h1
    · exact h.len m h1
    · obtain rfl:m=e:=by simpa using h1
      exact he
theorem OwE.one {base : Nat} {e:Ep} {v:Value} {W:World} (h:OwE base [e] v W):∃ (g c:Nat) (cur:Array Value),v=.slice (some ⟨g,0,none⟩) 1 c∧base≤g∧W.heap[g]? = some (.cells cur 55)∧∀ (j:Nat) (u:Value),(cat (epP e))[j]? = some u→cur[j]? = some u:=by
  rcases h.row.2 with ⟨-,e2⟩ | ⟨g,cap,cur,q1,q2,q3,q4,q5,q6,q7⟩
  · cases e2
  · refine ⟨g,cap,cur,q1,q2,q3,fun j u hu=>?_⟩
    have hj:j<35:=by have:=(Array.getElem?_eq_some_iff.1 hu).1; rw [QfC e (h.len e (by simp))] at this; exact this
    have:(cur.toList.take (1*35))[j]? = some u:=by
      show (cur.toList.take ([e].length*35))[j]? = some u
      rw [q7]; simpa using hu
    rw [List.getElem?_take] at this
    simpa [hj] using this
def ChN (base : Nat) (sec:List Int) (k:Nat):Fact:=fun v W=>∃ w0:World,base≤w0.heap.size∧NewR sec k w0 v W
theorem NewR.ext {sec : List Int} {k:Nat} {w W W':World} {v:Value} (h:NewR sec k w v W) (e:Ext W W'):NewR sec k w v W':=by
  obtain ⟨gc,gl,cap,lp,ns,h1,h2,h3,h4,h5,h6,h7,h8⟩:=h
  exact ⟨gc,gl,cap,lp,ns,h1,h2,h3,Qab h4 e,Qab h5 e,fun j p hp=>⟨(h6 j p hp).1,(h6 j p hp).2.1.ext e,(h6 j p hp).2.2⟩,h7,h8⟩
theorem ChN.stable (base : Nat) (sec:List Int) (k:Nat):Qb5 Ext (ChN base sec k):=fun _ _ _ hR ⟨w0,h1,h2⟩=>⟨w0,h1,NewR.ext h2 hR⟩
def EpIs (base : Nat) (sec:List Int) (k:Nat) (grp:List Int) (num leaf:Int) (e:Ep) (W:World):Prop:=e.grp=grp∧e.num=num∧e.leaf=leaf∧ChN base sec k (.pointer (some ⟨e.gc,0,none⟩)) W
theorem EpIs.ext {base : Nat} {sec:List Int} {k:Nat} {grp:List Int} {num leaf:Int} {e:Ep} {W W':World} (h:EpIs base sec k grp num leaf e W) (x:Ext W W'):EpIs base sec k grp num leaf e W':=⟨h.1,h.2.1,h.2.2.1,ChN.stable _ _ _ _ _ _ x h.2.2.2⟩
def EpF (base : Nat) (sec:List Int) (k:Nat) (grp:List Int) (num leaf:Int):Fact:=fun v W=>∃ e:Ep,v=.agg (cat (epP e))∧EpIs base sec k grp num leaf e W
theorem EpF.stable (base : Nat) (sec:List Int) (k:Nat) (grp:List Int) (num leaf:Int):Qb5 Ext (EpF base sec k grp num leaf):=fun _ _ _ hR ⟨e,h1,h2⟩=>⟨e,h1,h2.ext hR⟩
def SlF (base : Nat) (sec:List Int) (k:Nat) (grp:List Int) (num leaf:Int):Fact:=fun v W=>∃ (g:Nat) (e:Ep),v=.slice (some ⟨g,0,none⟩) 1 1∧W.heap[g]? = some (.cells (cat (epP e)) 55)∧EpIs base sec k grp num leaf e W
theorem SlF.stable (base : Nat) (sec:List Int) (k:Nat) (grp:List Int) (num leaf:Int):Qb5 Ext (SlF base sec k grp num leaf):=fun _ _ _ hR ⟨g,e,h1,h2,h3⟩=>⟨g,e,h1,Qab h2 hR,h3.ext hR⟩
def OnF (base : Nat) (sec:List Int) (k:Nat) (grp:List Int) (num leaf:Int):Fact:=fun v W=>∃ e:Ep,OwE base [e] v W∧EpIs base sec k grp num leaf e W
theorem OnF.stable (base : Nat) (sec:List Int) (k:Nat) (grp:List Int) (num leaf:Int):Qb5 Ext (OnF base sec k grp num leaf):=fun _ _ _ hR ⟨e,h1,h2⟩=>⟨e,h1.ext hR,h2.ext hR⟩
theorem QjA {W W':World} (h:W.grownBy W' none):Ext W W':=⟨h.os,h.tape,h.output,h.size,fun k hk=>h.block k hk (fun q=>by cases q)⟩
theorem QjE (gb : Nat) (w:World) (hgb:w.heap[gb]? = some (.cells (cat [#[.slice none 0 0],#[.bool false]]) 49)):Calls Tryd.prog 16 #[.pointer (some ⟨gb,0,none⟩)] w (Ret w (.pointer none)):=by
  refine enter 24 [(0,.pointer (some ⟨gb,0,none⟩))] Tryd.func16 rfl rfl kj rfl ?_
  refine wp_seq_k fun K2 hK2=>?_
  refine Qad ?_
  refine Qaa (.pointer none) 2 rfl kj kj ?_
  refine Qag ?_
  refine hK2 _ _ ?_
  refine wp_seq_k fun K3 hK3=>?_
  refine wp_seq_k fun K4 hK4=>?_
  refine Qad ?_
  refine Qaa (.pointer (some ⟨gb,0,none⟩)) 3 rfl kj kj ?_
  refine Qaa (.bool false) 4 rfl kj kj ?_
  refine Qaa (.bool false) 5 rfl kj kj ?_
  refine Qaa (.pointer (some ⟨gb,0,none⟩)) 6 rfl kj kj ?_
  refine Qaa (.pointer (some ⟨gb,0,none⟩)) 7 rfl kj kj ?_
  refine Qaa (.pointer (some ⟨gb,0,none⟩)) 8 rfl kj kj ?_
  refine Qaa (.slice none 0 0) 9 rfl kj (Qae 47 _ gb 0 49 _ (.slice none 0 0) _ hgb rfl kj kj kj) ?_
  refine Qaa (.int .i64 0) 10 rfl kj kj ?_
  refine Qaa (.bool true) 11 rfl kj kj ?_
  refine Qaa (.bool true) 12 rfl kj kj ?_
  refine Qag ?_
  refine hK4 _ _ ?_
  refine cond_true kj ?_
  refine wp_seq_k fun K5 hK5=>?_
  refine Qad ?_
  refine Qaa (.pointer none) 2 rfl kj kj ?_
  refine Qag ?_
  refine hK5 _ _ ?_
  refine wp_ret ?_
  exact (show bodyPost _ _ _ .ret _ _ from ret1 (.pointer none) rfl (Qa0 kj) ⟨rfl,(zaY w)⟩)
end Pk
end
section
namespace Pk
open Go Go.RowKit
open Rely Auto Own Sha
open Cha
open Ae hiding run_storeQ
open Cn
theorem QjL {P : Program} {ρ:Operand→Value} {o:Oper} {W:World} (b:Nat) (s x:Operand) (t:TypeId) (ho:o.op=.call { callee:=.builtin .append,args:=#[s,x],argTypes:=#[t,t] }) (ht:P.underlying t=some (.slice 55))
    (hi:(P.info? 55).map (fun i=>(i.zero.map (·.cells.size),i.size,i.bytes))=some (some 35,35,b)) (hb8:b≤1000) {base:Nat} {sec:List Int} {k:Nat} {grp:List Int} {num leaf:Int} (hs:ρ s=.slice none 0 0) (hx:SlF base sec k grp num leaf (ρ x) W) (hgl:grp.length=32) (hbase:base≤W.heap.size) :
    ∃ v W',(execOp ρ o).run P W=.ok (.value v) W'∧Ext W W'∧OnF base sec k grp num leaf v W':=by
  obtain ⟨g0,e,eg,hr0,hE⟩:=hx
  have hel:e.grp.length=32:=by rw [hE.1]; exact hgl
  obtain ⟨v',W',h1,h2,h3⟩:=OwE.app (ρ:=ρ) b s x t ho ht hi hb8 hs eg (OwE.nil base W) hel hr0 (za1 _) hbase
  have hx:=QjA h3
  exact ⟨v',W',h1,hx,e,h2,hE.ext hx⟩
theorem OwE.ge {base : Nat} {es:List Ep} {v:Value} {W:World} (h:OwE base es v W) {k:Nat} (e:v.ownBlock=some k):base≤k:=by
  rcases h.row.2 with ⟨rfl,_⟩ | ⟨g',c,cur,rfl,q2,q3,_⟩
  · cases e
  · obtain rfl:g'=k:=Option.some.inj e
    exact q2
theorem OwE.off {base g:Nat} {es:List Ep} {v:Value} {W:World} (h:OwE base es v W) (hg:g<base):v.ownBlock=none∨v.ownBlock≠some g:=by
  cases e:v.ownBlock with
  | none=>exact .inl rfl
  | some k =>
    refine .inr fun e2=>?_
    have:=h.ge e
    obtain rfl:=Option.some.inj e2
    omega
theorem OwE.extB {base g:Nat} {es:List Ep} {v:Value} {W W':World} (h:OwE base es v W) (q:ExtB g W W') (hg:g<base):OwE base es v W' :=
  ⟨h.row.kept (row:=some g) ⟨q.1,q.2.1,q.2.2.1,q.2.2.2.1,fun k hk hn=>q.2.2.2.2 k hk fun e=>hn (by rw [e])⟩ (h.off hg),h.len⟩
theorem ChN.extB {base g:Nat} {sec:List Int} {k:Nat} {v:Value} {W W':World} {c:Array Value} (h:ChN base sec k v W) (q:ExtB g W W') (hg:g<base) (r:W.heap[g]? = some (.cells c 49)):ChN base sec k v W':=by
  obtain ⟨w0,h0,gc,gl,cap,lp,ns,h1,h2,h3,h4,h5,h6,h7,h8⟩:=h
  refine ⟨w0,h0,gc,gl,cap,lp,ns,h1,h2,h3,zbd q h4 (by omega),zbd q h5 (fun e=>by subst e; exact QgW h5 r (by decide)),fun j p hp=>?_,h7,h8⟩
  obtain ⟨a1,a2,a3,a4⟩:=h6 j p hp
  exact ⟨a1,a2.keep (q.2.2.2.2 _ a2.glt (by omega)) (q.2.2.2.2 _ a2.mp.lt (by omega)),a3,a4⟩
theorem EpIs.extB {base g:Nat} {sec:List Int} {k:Nat} {grp:List Int} {num leaf:Int} {e:Ep} {W W':World} {c:Array Value} (h:EpIs base sec k grp num leaf e W) (q:ExtB g W W') (hg:g<base) (r:W.heap[g]? = some (.cells c 49)):EpIs base sec k grp num leaf e W':=⟨h.1,h.2.1,h.2.2.1,h.2.2.2.extB q hg r⟩
theorem OwE.base {a b:Nat} {es:List Ep} {v:Value} {W:World} (hab:a≤b) (h:OwE b es v W):OwE a es v W:=⟨⟨h.row.1,h.row.2.imp id fun ⟨g,c,cur,q1,q2,q3⟩=>⟨g,c,cur,q1,qT hab q2,q3⟩⟩,h.len⟩
theorem EpIs.base {a b:Nat} {sec:List Int} {k:Nat} {grp:List Int} {num leaf:Int} {e:Ep} {W:World} (hab:a≤b) (h:EpIs b sec k grp num leaf e W):EpIs a sec k grp num leaf e W:=⟨h.1,h.2.1,h.2.2.1,by obtain ⟨w0,h1,h2⟩:=h.2.2.2; exact ⟨w0,qT hab h1,h2⟩⟩
theorem QjD (g : Nat) (grp sec:List Int) (num leaf:Int) (k:Nat) (hk:k≤5) (hgl:grp.length=32) (hsl:sec.length=32) (hsb:Qaj sec) (hn0:0≤num) (hn1:num≤4294967295) (hl0:0≤leaf) (hl1:leaf<((2^k:Nat):Int)) (tc tq:TypeId) (w:World) (hg:w.heap[g]? = some (.cells (cat [#[.slice none 0 0],#[.bool false]]) 49)) (hc:w.heap[4]? = some (.cells (ints .u64 QaQ) tc)) (hq:w.heap[3]? = some (.cells (ints .u64 Qa6) tq)) (hT:Seat.TabAt w) :
  Calls Tryd.prog 7 #[.pointer (some ⟨g,0,none⟩),.agg (ints .u8 grp),.int .i64 num,.agg (ints .u8 sec),.int .i64 ((2^k:Nat):Int),.int .i64 leaf] w (fun x W=>x=.returned .nilIface∧ExtB g w W∧∃ (e:Ep) (v:Value),W.heap[g]? = some (.cells (cat [#[v],#[.bool false]]) 49)∧OwE w.heap.size [e] v W∧EpIs w.heap.size sec k grp num leaf e W):=by
 have h2k:0<2^k:=zay (by decide)
 refine enter 94 [(0,.pointer (some ⟨g,0,none⟩)),(1,.agg (ints .u8 (grp))),(2,.int .i64 num),(3,.agg (ints .u8 (sec))),(4,.int .i64 ((2^k:Nat):Int)),(5,.int .i64 leaf)] Tryd.func7 rfl rfl kj rfl ?_
 refine wp_seq_k fun K4 hK4=>?_
 refine Qad ?_
 refine Qam (ints .u8 (grp)) 29 7 rfl kj kj fun g5 W1 l5 e1 r5_1=>?_
 have x1:Ext w W1:=zbb (zaY w) e1
 have b5:w.heap.size≤g5:=qT (zaY w).size l5
 refine Qam (ints .u8 (sec)) 29 9 rfl kj kj fun g6 W2 l6 e2 r6_2=>?_
 have x2:Ext w W2:=zbb x1 e2
 have b6:w.heap.size≤g6:=qT x1.size l6
 refine Qaa (.nilIface) 12 rfl kj kj ?_
 refine Qag ?_
 refine hK4 _ _ ?_
 refine wp_seq_k fun K7 hK7=>?_
 refine wp_seq_k fun K8 hK8=>?_
 refine Qad ?_
 refine Qaa (.pointer (some ⟨g,0,none⟩)) 14 rfl kj kj ?_
 refine Qaa (.bool false) 15 rfl kj kj ?_
 refine Qaa (.bool false) 16 rfl kj kj ?_
 refine Qaa (.pointer (some ⟨g,0,none⟩)) 17 rfl kj kj ?_
 refine Qaa (.pointer (some ⟨g,0,none⟩)) 18 rfl kj kj ?_
 refine Qaa (.pointer (some ⟨g,1,none⟩)) 19 rfl kj kj ?_
 have r1_1:=(Qab hg e1)
 have r1_2:=(Qab r1_1 e2)
 refine Qaa (.bool false) 20 rfl kj (Qae 4 _ g 1 49 _ (.bool false) _ r1_2 rfl kj kj kj) ?_
 refine Qaa (.bool false) 21 rfl kj kj ?_
 refine Qag ?_
 refine hK8 _ _ ?_
 refine cond_false kj ?_
 refine wp_skip ?_
 refine hK7 _ _ ?_
 refine wp_seq_k fun K9 hK9=>?_
 refine wp_seq_k fun K10 hK10=>?_
 refine Qad ?_
 refine Qaa (.int .i64 ((2^k:Nat):Int)) 23 rfl kj kj ?_
 refine Qat (.int .i64 (((2^k:Nat):Int)-1)) 15 #[.int .i64 ((2^k:Nat):Int)] 24 rfl kj kj ((Qm4 k hk) _) fun W3 e3=>?_
 have x3:Ext w W3:=zbb x2 e3
 refine Qaa (.bool false) 25 rfl kj (Qai (u:=.bool (decide ((((2^k:Nat):Int)-1)<0))) kj (congrArg zau (decide_eq_false (by omega)))) ?_
 refine Qaa (.bool false) 26 rfl kj kj ?_
 refine Qaa (.int .i64 leaf) 27 rfl kj kj ?_
 refine Qaa (.bool false) 28 rfl kj (Qai (u:=.bool (decide (leaf<0))) kj (congrArg zau (decide_eq_false (by omega)))) ?_
 refine Qaa (.bool false) 29 rfl kj kj ?_
 refine Qaa (.bool false) 30 rfl kj kj ?_
 refine Qaa (.int .i64 leaf) 31 rfl kj kj ?_
 refine Qaa (.int .i64 ((2^k:Nat):Int)) 32 rfl kj kj ?_
 refine Qaa (.bool false) 33 rfl kj (Qai (u:=.bool (decide (leaf≥((2^k:Nat):Int)))) kj (congrArg zau (decide_eq_false (by omega)))) ?_
 refine Qaa (.bool false) 34 rfl kj kj ?_
 refine Qag ?_
 refine hK10 _ _ ?_
 refine cond_false kj ?_
 refine wp_skip ?_
 refine hK9 _ _ ?_
 refine wp_seq_k fun K11 hK11=>?_
 refine wp_seq_k fun K12 hK12=>?_
 refine Qad ?_
 refine Qaa (.int .i64 num) 36 rfl kj kj ?_
 refine Qaa (.bool false) 37 rfl kj (Qai (u:=.bool (decide (num<0))) kj (congrArg zau (decide_eq_false (by omega)))) ?_
 refine Qaa (.bool false) 38 rfl kj kj ?_
 refine Qaa (.int .i64 num) 39 rfl kj kj ?_
 refine Qaa (.bool false) 40 rfl kj (Qai (u:=.bool (decide (num>4294967295))) kj (congrArg zau (decide_eq_false (by omega)))) ?_
 refine Qaa (.bool false) 41 rfl kj kj ?_
 refine Qag ?_
 refine hK12 _ _ ?_
 refine cond_false kj ?_
 refine wp_skip ?_
 refine hK11 _ _ ?_
 refine wp_seq_k fun K13 hK13=>?_
 refine wp_seq_k fun K14 hK14=>?_
 refine Qad ?_
 refine Qaa (.pointer (some ⟨g,0,none⟩)) 43 rfl kj kj ?_
 have r1_3:=(Qab r1_2 e3)
 refine Qat (.pointer none) 16 #[.pointer (some ⟨g,0,none⟩)] 44 rfl kj kj (QjE g _ r1_3) fun W4 e4=>?_
 have x4:Ext w W4:=zbb x3 e4
 refine Qaa (.pointer none) 13 rfl kj kj ?_
 refine Qag ?_
 refine hK14 _ _ ?_
 refine wp_seq_k fun K15 hK15=>?_
 refine QaU 18 [⟨none,[(13,none)]⟩,⟨none,[(45,some 0)]⟩,⟨none,[(46,some 1)]⟩,⟨some (47,true),[(2,none),(47,some 2)]⟩,⟨some (47,true),[(13,none),(47,some 2)]⟩,⟨some (47,true),[(49,some 4),(47,some 2)]⟩,⟨some (47,true),[(50,some 5),(47,some 2)]⟩,⟨some (47,true),[(51,some 6),(47,some 2)]⟩,⟨some (47,true),[(48,some 3),(52,some 7),(47,some 2)]⟩,⟨some (47,true),[(53,some 8),(47,some 2)]⟩,⟨some (54,false),[(7,none),(54,some 9)]⟩,⟨some (54,false),[(13,none),(54,some 9)]⟩,⟨some (54,false),[(56,some 11),(54,some 9)]⟩,⟨some (54,false),[(57,some 12),(54,some 9)]⟩,⟨some (54,false),[(58,some 13),(54,some 9)]⟩,⟨some (54,false),[(55,some 10),(59,some 14),(54,some 9)]⟩,⟨some (47,true),[(54,some 9),(60,some 15),(47,some 2)]⟩,⟨none,[(47,some 2),(61,some 16)]⟩] kj kj fun F hF=>?_
 refine Qar (.pointer none) kj kj (fun W=>by kernel_rfl) ?_
 refine Qar (.bool false) kj kj (fun W=>by kernel_rfl) ?_
 refine Qar (.bool false) kj kj (fun W=>by kernel_rfl) ?_
 refine Qbb kj kj ?_
 refine Qbb kj kj ?_
 refine Qbb kj kj ?_
 refine Qbb kj kj ?_
 refine Qbb kj kj ?_
 refine Qbb kj kj ?_
 refine Qbb kj kj ?_
 refine Qbb kj kj ?_
 refine Qbb kj kj ?_
 refine Qbb kj kj ?_
 refine Qbb kj kj ?_
 refine Qbb kj kj ?_
 refine Qbb kj kj ?_
 refine Qbb kj kj ?_
 refine Qar (.bool false) kj kj (fun W=>by kernel_rfl) ?_
 refine Qbd (hF _ kj fun W5 e5=>?_)
 simp only [ups,up,Kn.val,za2,za3,za4,za5,zax,za6]
 clear hF
 have x5:Ext w W5:=zbb x4 e5
 refine Qag ?_
 refine hK15 _ _ ?_
 refine cond_false kj ?_
 refine wp_skip ?_
 refine hK13 _ _ ?_
 refine wp_seq_k fun K16 hK16=>?_
 refine Qbh 14 [⟨none,[(0,none)]⟩,⟨none,[(0,none)]⟩,⟨none,[(65,some 1)]⟩,⟨none,[(66,some 2)]⟩,⟨none,[(67,some 3)]⟩,⟨none,[(9,none)]⟩,⟨none,[(4,none)]⟩,⟨none,[(69,some 5),(70,some 6)]⟩,⟨none,[(7,none)]⟩,⟨none,[(2,none)]⟩,⟨none,[(5,none)]⟩,⟨none,[(71,some 7),(72,some 8),(73,some 9),(74,some 10)]⟩,⟨none,[(75,some 11)]⟩,⟨none,[(68,some 4),(76,some 12)]⟩] kj kj fun F hF=>?_
 refine QaF (Qaw _) (.pointer (some ⟨g,0,none⟩)) kj kj (fun W=>by kernel_rfl) ?_
 refine QaF (Qaw _) (.pointer (some ⟨g,0,none⟩)) kj kj (fun W=>by kernel_rfl) ?_
 refine QaF (Qaw _) (.pointer (some ⟨g,0,none⟩)) kj kj (fun W=>by kernel_rfl) ?_
 refine QaF (Qaw _) (.pointer (some ⟨g,0,none⟩)) kj kj (fun W=>by kernel_rfl) ?_
 have r1_4:=(Qab r1_3 e4)
 have r1_5:=(Qab r1_4 e5)
 refine Qbt (Qaw _) (.slice none 0 0) kj kj (fun W hR=>(Qae 47 _ g 0 49 _ (.slice none 0 0) _ (Qab (Qab r1_5 (Qan _)) hR) rfl kj kj kj)) ?_
 have r6_3:=(Qab r6_2 e3)
 have r6_4:=(Qab r6_3 e4)
 have r6_5:=(Qab r6_4 e5)
 refine Qbt (Qaw _) (.agg (ints .u8 (sec))) kj kj (fun W hR=>(Qao 29 _ g6 29 _ _ (Qab (Qab r6_5 (Qan _)) hR) rfl kj kj (isz (n:=32) kj ((Qap _ _).trans hsl)))) ?_
 refine QaF (Qaw _) (.int .i64 ((2^k:Nat):Int)) kj kj (fun W=>by kernel_rfl) ?_
 have r2_1:=(Qab hc e1)
 have r2_2:=(Qab r2_1 e2)
 have r2_3:=(Qab r2_2 e3)
 have r2_4:=(Qab r2_3 e4)
 have r2_5:=(Qab r2_4 e5)
 have r3_1:=(Qab hq e1)
 have r3_2:=(Qab r3_1 e2)
 have r3_3:=(Qab r3_2 e3)
 have r3_4:=(Qab r3_3 e4)
 have r3_5:=(Qab r3_4 e5)
 refine QeM (Qaw _) (ChN W5.heap.size sec k) (ChN.stable _ _ _) 17 #[.agg (ints .u8 (sec)),.int .i64 ((2^k:Nat):Int)] kj kj (fun W=>by kernel_rfl) (fun W hR=>(fun _=>(newC k hk sec tc tq W (Qab (Qab r2_5 (Qan _)) hR) (Qab (Qab r3_5 (Qan _)) hR) (hT.ext (zaZ (zaZ x5 (Qan _)) hR)) hsl hsb).mono fun e W' ⟨v,h1,h2,h3⟩=>⟨v,h1,h2,W,hR.size,h3⟩) W) ?_
 have r5_2:=(Qab r5_1 e2)
 have r5_3:=(Qab r5_2 e3)
 have r5_4:=(Qab r5_3 e4)
 have r5_5:=(Qab r5_4 e5)
 refine Qbt (Qaw _) (.agg (ints .u8 (grp))) kj kj (fun W hR=>(Qao 29 _ g5 29 _ _ (Qab (Qab r5_5 (Qan _)) hR) rfl kj kj (isz (n:=32) kj ((Qap _ _).trans hgl)))) ?_
 refine QaF (Qaw _) (.int .i64 num) kj kj (fun W=>by kernel_rfl) ?_
 refine QaF (Qaw _) (.int .i64 leaf) kj kj (fun W=>by kernel_rfl) ?_
 refine Qh6 (Qaw _) (EpF W5.heap.size sec k grp num leaf) (EpF.stable _ _ _ _ _ _) (fun ρ W hR hh=>?_) ?_
 ·skip
  have hC:ChN W5.heap.size sec k (ρ 71) W:=hh.1
  have e72:ρ 72=.agg (ints .u8 grp):=hh.2.1
  have e73:ρ 73=.int .i64 num:=hh.2.2.1
  have e74:ρ 74=.int .i64 leaf:=hh.2.2.2.1
  obtain ⟨gc,egc⟩:∃ gc:Nat,ρ 71=.pointer (some ⟨gc,0,none⟩):=by
   obtain ⟨w0,h0,gc,gl,cap,lp,ns,h1,-⟩:=hC
   exact ⟨gc,h1⟩
  rw [egc] at hC
  exact ⟨_,W,Qm2 (.tmp 71) (.tmp 72) (.tmp 73) (.tmp 74) ⟨gc,grp,num,leaf⟩ rfl egc e72 e73 e74 hgl,zaY _,⟨gc,grp,num,leaf⟩,rfl,rfl,rfl,rfl,hC⟩
 refine Qh6 (Qaw _) (SlF W5.heap.size sec k grp num leaf) (SlF.stable _ _ _ _ _ _) (fun ρ W hR hh=>?_) ?_
 ·skip
  obtain ⟨e,ee,hE⟩:EpF W5.heap.size sec k grp num leaf (ρ 75) W:=hh.1
  have hel:e.grp.length=32:=by rw [hE.1]; exact hgl
  exact ⟨_,_,Qll 47 55 35 (.tmp 75) (.agg (cat (epP e))) rfl ee kj kj kj (QfC e hel) (by decide) (by decide),QaZ _ _,W.heap.size,e,rfl,heap_alloc_new _ _,hE.ext (QaZ _ _)⟩
 refine Qh6 (Qaw _) (OnF W5.heap.size sec k grp num leaf) (OnF.stable _ _ _ _ _ _) (fun ρ W hR hh=>?_) ?_
 ·skip
  exact QjL (P:=Tryd.prog) (ρ:=Rely.look ρ) 56 (.tmp 68) (.tmp 76) 47 rfl kj kj (by decide) (show ρ 68=.slice none 0 0 from hh.1) (show SlF W5.heap.size sec k grp num leaf (ρ 76) W from hh.2.1) hgl hR.size
 refine Qdj (hF _ fun W6 e6=>?_)
 simp only [zax,za6,za2,za3,za4,za5,finE,up]
 intro vv17 hv17 vv18 hv18 vv19 hv19 vv20 hv20
 clear hF
 have x6:Ext w W6:=zbb x5 e6
 obtain ⟨ep,ho,hE⟩:=hv20
 obtain ⟨ge,ce,cur,rfl,lge,rge,hcur⟩:=OwE.one ho
 refine Qaa (.pointer (some ⟨g,0,none⟩)) 78 rfl kj kj ?_
 refine Qaa (.pointer (some ⟨g,0,none⟩)) 79 rfl kj kj ?_
 have r1_6:=(Qab r1_5 e6)
 have xb6:ExtB g w W6:=ExtB.ext (zbc g w) x6
 refine Qak g _ (cat [#[.slice (some ⟨ge,0,none⟩) 1 ce],#[.bool false]]) 49 r1_6 rfl kj (Qbe 47 _ _ g 0 49 _ (.slice (some ⟨ge,0,none⟩) 1 ce) r1_6 rfl kj kj kj kj kj rfl) fun W7 p7 r1_7=>?_
 have x7:ExtB g w W7:=ExtB.puts xb6 p7
 have hlt:g<W5.heap.size:=qL (Qas hg) x5.size
 have hqB:ExtB g W6 W7:=ExtB.puts (zbc g _) p7
 have hO2:=OwE.base x5.size (OwE.extB ho hqB hlt)
 have hE2:=EpIs.base x5.size (EpIs.extB hE hqB hlt r1_6)
 refine Qag ?_
 refine hK16 _ _ ?_
 refine wp_seq_k fun K21 hK21=>?_
 refine wp_seq_k fun K22 hK22=>?_
 refine Qad ?_
 refine Qaa (.pointer (some ⟨g,0,none⟩)) 80 rfl kj kj ?_
 refine Qaa (.pointer (some ⟨g,0,none⟩)) 81 rfl kj kj ?_
 refine Qaa (.pointer (some ⟨g,0,none⟩)) 82 rfl kj kj ?_
 refine Qaa (.slice (some ⟨ge,0,none⟩) 1 ce) 83 rfl kj (Qae 47 _ g 0 49 _ (.slice (some ⟨ge,0,none⟩) 1 ce) _ r1_7 rfl kj kj kj) ?_
 refine Qaa (.int .i64 1) 84 rfl kj kj ?_
 refine Qaa (.bool false) 85 rfl kj kj ?_
 refine Qag ?_
 refine hK22 _ _ ?_
 refine cond_false kj ?_
 refine wp_skip ?_
 refine hK21 _ _ ?_
 refine wp_seq_k fun K23 hK23=>?_
 refine Qad ?_
 refine Qaa (.nilIface) 12 rfl kj kj ?_
 refine Qag ?_
 refine hK23 _ _ ?_
 refine wp_ret ?_
 exact (show bodyPost _ _ _ .ret _ _ from ret1 (.nilIface) rfl (Qa0 kj) ⟨rfl,x7,_,_,r1_7,hO2,hE2⟩)
end Pk
end
section
namespace Pk
open Go Go.RowKit
open Rely Auto Own Sha
open Cha
open Ae hiding run_storeQ
open Cn
theorem Qgv (grp : List Int) (hgl:grp.length=32) (a_t:Option Addr) (n_t c_t:Nat) (w:World):Calls Tryd.prog 21 #[.agg (cat [ints .u8 grp,#[.int .i64 0],#[.int .i64 0],#[.int .i64 0],#[.slice a_t n_t c_t]])] w (QbD w (OwnN .u8 5 w.heap.size (grp++[0,0,0,0]++[0]++[0,0,0,0]))):=by
  refine enter 50 [(0,.agg (cat [ints .u8 (grp),#[.int .i64 0],#[.int .i64 0],#[.int .i64 0],#[.slice a_t n_t c_t]]))] Tryd.func21 rfl rfl kj rfl ?_
  refine wp_seq_k fun K1 hK1=>?_
  refine Qad ?_
  refine Qam (cat [ints .u8 (grp),#[.int .i64 0],#[.int .i64 0],#[.int .i64 0],#[.slice a_t n_t c_t]]) 35 1 rfl kj kj fun g2 W1 l2 e1 r2_1=>?_
  have x1:Ext w W1:=zbb (zaY w) e1
  have b2:w.heap.size≤g2:=qT (zaY w).size l2
  refine Qaa (.slice none 0 0) 2 rfl kj kj ?_
  refine Qag ?_
  refine hK1 _ _ ?_
  refine wp_seq_k fun K3 hK3=>?_
  refine Qad ?_
  refine Qbg (ints .u8 ([])) 5 0 4 rfl kj kj fun g4 W2 l4 e2 r4_2=>?_
  have x2:Ext w W2:=zbb x1 e2
  have b4:w.heap.size≤g4:=qT x1.size l4
  refine Qaa (.pointer (some ⟨g2,0,none⟩)) 5 rfl kj kj ?_
  refine Qaa (.slice (some ⟨g2,0,none⟩) 32 32) 6 rfl kj kj ?_
  have r2_2:=(Qab r2_1 e2)
  have y1_2:Ext W1 W2:=(zaZ (zaY W1) e2)
  refine Qby (k:=.u8) (T:=5) (xs:=[]) (ys:=grp) (V:=W1) 1 (.tmp 4) (.tmp 6) 33 rfl kj kj (by decide) 7 rfl kj kj kj (Qcu (xs:=[]) rfl l4 r4_2 (by decide)) (QdR 0 hgl r2_2 (fun i hi=>QdG [] [#[.int .i64 0],#[.int .i64 0],#[.int .i64 0],#[.slice a_t n_t c_t]] grp 0 i (0+i) kj rfl (by rw [hgl]; exact hi)) (Qas r2_2) (qR _) (by decide)) (by simp [hgl]) y1_2 fun u1 W3 f5 y3 l3=>?_
  have x3:Ext w W3:=Ext.low x2 l3 x1.size
  refine Qaa (u1) 3 rfl kj kj ?_
  refine Qag ?_
  refine hK3 _ _ ?_
  refine wp_seq_k fun K7 hK7=>?_
  refine Qad ?_
  refine Qaa (u1) 8 rfl kj kj ?_
  refine Qaa (.pointer (some ⟨g2,32,none⟩)) 9 rfl kj kj ?_
  have r2_3:=(QbH l3 r2_2 (Qas r2_1))
  refine Qaa (.int .i64 0) 10 rfl kj (Qae 3 _ g2 32 35 _ (.int .i64 0) _ r2_3 rfl kj (Qaq [ints .u8 (grp)] [#[.int .i64 0]] [#[.int .i64 0],#[.int .i64 0],#[.slice a_t n_t c_t]] 32 ((Qap _ _).trans hgl) 0 _ rfl) kj) ?_
  refine Qaa (.int .i64 0) 11 rfl kj kj ?_
  refine Qaa (.int .u8 0) 12 rfl kj kj ?_
  refine Qaa (.pointer (some ⟨g2,32,none⟩)) 13 rfl kj kj ?_
  refine Qaa (.int .i64 0) 14 rfl kj (Qae 3 _ g2 32 35 _ (.int .i64 0) _ r2_3 rfl kj (Qaq [ints .u8 (grp)] [#[.int .i64 0]] [#[.int .i64 0],#[.int .i64 0],#[.slice a_t n_t c_t]] 32 ((Qap _ _).trans hgl) 0 _ rfl) kj) ?_
  refine Qaa (.int .i64 0) 15 rfl kj kj ?_
  refine Qaa (.int .u8 0) 16 rfl kj kj ?_
  refine Qaa (.pointer (some ⟨g2,32,none⟩)) 17 rfl kj kj ?_
  refine Qaa (.int .i64 0) 18 rfl kj (Qae 3 _ g2 32 35 _ (.int .i64 0) _ r2_3 rfl kj (Qaq [ints .u8 (grp)] [#[.int .i64 0]] [#[.int .i64 0],#[.int .i64 0],#[.slice a_t n_t c_t]] 32 ((Qap _ _).trans hgl) 0 _ rfl) kj) ?_
  refine Qaa (.int .i64 0) 19 rfl kj kj ?_
  refine Qaa (.int .u8 0) 20 rfl kj kj ?_
  refine Qaa (.pointer (some ⟨g2,32,none⟩)) 21 rfl kj kj ?_
  refine Qaa (.int .i64 0) 22 rfl kj (Qae 3 _ g2 32 35 _ (.int .i64 0) _ r2_3 rfl kj (Qaq [ints .u8 (grp)] [#[.int .i64 0]] [#[.int .i64 0],#[.int .i64 0],#[.slice a_t n_t c_t]] 32 ((Qap _ _).trans hgl) 0 _ rfl) kj) ?_
  refine Qaa (.int .u8 0) 23 rfl kj kj ?_
  refine Qbg (ints .u8 ([0,0,0,0])) 5 4 24 rfl kj kj fun g8 W4 l8 e4 r8_4=>?_
  have x4:Ext w W4:=zbb x3 e4
  have b8:w.heap.size≤g8:=qT x3.size l8
  have f9_4:=(f5.ext e4)
  have y1_4:Ext W1 W4:=(zaZ y3 e4)
  refine Qby (k:=.u8) (T:=5) (xs:=[]++grp) (ys:=[0,0,0,0]) (V:=W1) 1 (.tmp 8) (.tmp 24) 33 rfl kj kj (by decide) 25 rfl kj kj kj f9_4 (Qbw (xs:=[0,0,0,0]) (n:=4) rfl r8_4 (Qas r8_4) (show 4≤maxLen from by decide)) (by simp [hgl]) y1_4 fun u2 W5 f10 y5 l5=>?_
  have x5:Ext w W5:=Ext.low x4 l5 x1.size
  refine Qaa (u2) 3 rfl kj kj ?_
  refine Qag ?_
  refine hK7 _ _ ?_
  refine wp_seq_k fun K12 hK12=>?_
  refine Qad ?_
  refine Qaa (u2) 26 rfl kj kj ?_
  refine Qaa (.pointer (some ⟨g2,33,none⟩)) 27 rfl kj kj ?_
  have r2_4:=(Qab r2_3 e4)
  have r2_5:=(QbH l5 r2_4 (Qas r2_1))
  refine Qaa (.int .i64 0) 28 rfl kj (Qae 3 _ g2 33 35 _ (.int .i64 0) _ r2_5 rfl kj (Qaq [ints .u8 (grp),#[.int .i64 0]] [#[.int .i64 0]] [#[.int .i64 0],#[.slice a_t n_t c_t]] 33 (by rw [Qac,Qac]; simp only [qS,cat,((Qap _ _).trans hgl)]; rfl) 0 _ rfl) kj) ?_
  refine Qaa (.int .u8 0) 29 rfl kj kj ?_
  refine Qbg (ints .u8 ([0])) 5 1 30 rfl kj kj fun g13 W6 l13 e6 r13_6=>?_
  have x6:Ext w W6:=zbb x5 e6
  have b13:w.heap.size≤g13:=qT x5.size l13
  have f14_6:=(f10.ext e6)
  have y1_6:Ext W1 W6:=(zaZ y5 e6)
  refine Qby (k:=.u8) (T:=5) (xs:=[]++grp++[0,0,0,0]) (ys:=[0]) (V:=W1) 1 (.tmp 26) (.tmp 30) 33 rfl kj kj (by decide) 31 rfl kj kj kj f14_6 (Qbw (xs:=[0]) (n:=1) rfl r13_6 (Qas r13_6) (show 1≤maxLen from by decide)) (by simp [hgl]) y1_6 fun u3 W7 f15 y7 l7=>?_
  have x7:Ext w W7:=Ext.low x6 l7 x1.size
  refine Qaa (u3) 3 rfl kj kj ?_
  refine Qag ?_
  refine hK12 _ _ ?_
  refine wp_seq_k fun K17 hK17=>?_
  refine Qad ?_
  refine Qaa (u3) 32 rfl kj kj ?_
  refine Qaa (.pointer (some ⟨g2,34,none⟩)) 33 rfl kj kj ?_
  have r2_6:=(Qab r2_5 e6)
  have r2_7:=(QbH l7 r2_6 (Qas r2_1))
  refine Qaa (.int .i64 0) 34 rfl kj (Qae 3 _ g2 34 35 _ (.int .i64 0) _ r2_7 rfl kj (Qaq [ints .u8 (grp),#[.int .i64 0],#[.int .i64 0]] [#[.int .i64 0]] [#[.slice a_t n_t c_t]] 34 (by rw [Qac,Qac,Qac]; simp only [qS,cat,((Qap _ _).trans hgl)]; rfl) 0 _ rfl) kj) ?_
  refine Qaa (.int .i64 0) 35 rfl kj kj ?_
  refine Qaa (.int .u8 0) 36 rfl kj kj ?_
  refine Qaa (.pointer (some ⟨g2,34,none⟩)) 37 rfl kj kj ?_
  refine Qaa (.int .i64 0) 38 rfl kj (Qae 3 _ g2 34 35 _ (.int .i64 0) _ r2_7 rfl kj (Qaq [ints .u8 (grp),#[.int .i64 0],#[.int .i64 0]] [#[.int .i64 0]] [#[.slice a_t n_t c_t]] 34 (by rw [Qac,Qac,Qac]; simp only [qS,cat,((Qap _ _).trans hgl)]; rfl) 0 _ rfl) kj) ?_
  refine Qaa (.int .i64 0) 39 rfl kj kj ?_
  refine Qaa (.int .u8 0) 40 rfl kj kj ?_
  refine Qaa (.pointer (some ⟨g2,34,none⟩)) 41 rfl kj kj ?_
  refine Qaa (.int .i64 0) 42 rfl kj (Qae 3 _ g2 34 35 _ (.int .i64 0) _ r2_7 rfl kj (Qaq [ints .u8 (grp),#[.int .i64 0],#[.int .i64 0]] [#[.int .i64 0]] [#[.slice a_t n_t c_t]] 34 (by rw [Qac,Qac,Qac]; simp only [qS,cat,((Qap _ _).trans hgl)]; rfl) 0 _ rfl) kj) ?_
  refine Qaa (.int .i64 0) 43 rfl kj kj ?_
  refine Qaa (.int .u8 0) 44 rfl kj kj ?_
  refine Qaa (.pointer (some ⟨g2,34,none⟩)) 45 rfl kj kj ?_
  refine Qaa (.int .i64 0) 46 rfl kj (Qae 3 _ g2 34 35 _ (.int .i64 0) _ r2_7 rfl kj (Qaq [ints .u8 (grp),#[.int .i64 0],#[.int .i64 0]] [#[.int .i64 0]] [#[.slice a_t n_t c_t]] 34 (by rw [Qac,Qac,Qac]; simp only [qS,cat,((Qap _ _).trans hgl)]; rfl) 0 _ rfl) kj) ?_
  refine Qaa (.int .u8 0) 47 rfl kj kj ?_
  refine Qbg (ints .u8 ([0,0,0,0])) 5 4 48 rfl kj kj fun g18 W8 l18 e8 r18_8=>?_
  have x8:Ext w W8:=zbb x7 e8
  have b18:w.heap.size≤g18:=qT x7.size l18
  have f19_8:=(f15.ext e8)
  have y1_8:Ext W1 W8:=(zaZ y7 e8)
  refine Qby (k:=.u8) (T:=5) (xs:=[]++grp++[0,0,0,0]++[0]) (ys:=[0,0,0,0]) (V:=W1) 1 (.tmp 32) (.tmp 48) 33 rfl kj kj (by decide) 49 rfl kj kj kj f19_8 (Qbw (xs:=[0,0,0,0]) (n:=4) rfl r18_8 (Qas r18_8) (show 4≤maxLen from by decide)) (by simp [hgl]) y1_8 fun u4 W9 f20 y9 l9=>?_
  have x9:Ext w W9:=Ext.low x8 l9 x1.size
  refine Qaa (u4) 2 rfl kj kj ?_
  refine Qag ?_
  refine hK17 _ _ ?_
  refine wp_ret ?_
  exact (show bodyPost _ _ _ .ret _ _ from ret1 (u4) rfl (Qa0 kj) ⟨_,rfl,x9,zbe x1.size f20⟩)
end Pk
end
section
namespace Cn
open Go Go.RowKit
open Rely Auto Own Sha
theorem QmF (gc gl len cap:Nat) (lp:Array Value) (w:World) (hgc:w.heap[gc]? = some (.cells #[.slice (some ⟨gl,0,none⟩) len cap] 71)) (hgl:w.heap[gl]? = some (.cells lp 73)) (g i:Nat) (hi:i<len) (hli:lp[i]? = some (.pointer (some ⟨g,0,none⟩))) (tc tq:TypeId) (hc:w.heap[4]? = some (.cells (ints .u64 QaQ) tc)) (hq:w.heap[3]? = some (.cells (ints .u64 Qa6) tq)) {mg pl:Nat} {s0 ts:List Int} {ms:List (Int×List Int)} (hch:ChSt g mg s0 ts pl ms w) (he:chkN ts pl ((pl:Nat):Int)=0) (hcg:4≠g) (hsg:3≠g):Calls Tryd.prog 19 #[.pointer (some ⟨gc,0,none⟩),.int .i64 ((i:Nat):Int)] w (fun e W=>∃ v,e=.returned (.tuple #[v,.nilIface])∧Qah [g,mg] w W∧ChSt g mg s0 (ts++[((pl:Nat):Int)]) (max pl (pl+1)) (Qdz ms s0 pl pl) W∧QbO w.heap.size ((pl:Nat):Int) (keyV (itV s0 pl)) v W):=by
  obtain ⟨B,hW,hrg⟩:=hch.row
  refine enter 23 [(0,.pointer (some ⟨gc,0,none⟩)),(1,.int .i64 ((i:Nat):Int))] Tryd.func19 rfl rfl kj rfl <| sgC fun K7 hK7=>Qam (cat [#[.int .i64 0],ints .u8 (zam 32 0),#[.slice none 0 0]]) 60 4 rfl kj kj fun g8 W1 l8 e1 r8_1=>?_
  have b8:=qT (zaY w).size l8
  refine sg 1 kj <| sgN hK7 <| sgC fun K9 hK9=>sg 2 kj ?_
  have r1_1:=(Qab hgc e1)
  have r2_1:=(Qab hgl e1)
  refine Qat (.pointer (some ⟨g,0,none⟩)) 32 #[.pointer (some ⟨gc,0,none⟩),.int .i64 ((i:Nat):Int)] 9 rfl kj kj (at_I gc gl len cap lp _ r1_1 r2_1 g i hi hli) fun W2 e2=>?_
  have x2:=zbb (zbb (zaY w) e1) e2
  refine sg 1 kj <| sgN hK9 <| wp_seq_k fun K10 hK10=>sgB kj <| cond_false kj <| wp_skip <| hK10 _ _ <| sgC fun K12 hK12=>sg 5 kj <| Qaa (.int .i64 ((pl:Nat):Int)) 19 rfl kj (Qae 3 _ g 34 82 _ (.int .i64 ((pl:Nat):Int)) _ (Qab (Qab hrg e1) e2) rfl kj (Qaq [#[.int .i64 ((pl:Nat):Int)],#[.int .u64 ((B:Nat):Int)],ints .u8 (itV s0 pl)] [#[.int .i64 ((pl:Nat):Int)]] [#[.map (some mg)]] 34 (by rw [Qac,Qac,Qac]; simp only [qS,cat,(izT (Qa2 hch.len pl))]; rfl) 0 _ rfl) kj) ?_
  refine Qav (fun v W'=>∃ u,v=.tuple #[u,.nilIface]∧Qah [g,mg] W2 W'∧ChSt g mg s0 (ts++[((pl:Nat):Int)]) (max pl (pl+1)) (Qdz ms s0 pl pl) W'∧QbO W2.heap.size ((pl:Nat):Int) (keyV (itV s0 pl)) u W') 26 #[.pointer (some ⟨gc,0,none⟩),.int .i64 ((i:Nat):Int),.int .i64 ((pl:Nat):Int)] 20 rfl kj kj ((QkL gc gl len cap lp _ (Qab r1_1 e2) (Qab r2_1 e2) g i hi hli tc tq (Qab (Qab hc e1) e2) (Qab (Qab hq e1) e2) (hch.ext x2) pl he hcg hsg).mono (by rintro e w' ⟨v,rfl,q1,q2,q3⟩; exact ⟨_,rfl,_,rfl,q1,q2,q3⟩)) fun vv13 W3 hh13=>?_
  obtain ⟨uu13,rfl,q3,hch2,u13,rfl,hu13⟩:=hh13
  obtain ⟨a13_,c13_,rfl,-⟩:=id (zbf hu13)
  have x3:Qah [g,mg] w W3:=Qah.keeps (zbh (Qah.refl [g,mg] w) x2) q3 (fun c hc=>.inl hc)
  refine sg 2 kj ?_
  have r8_2:=(Qab r8_1 e2)
  have r8_3:=(zbg q3 r8_2 (Qax (Ne.symm (zaw (qL hch.glt b8))) (Qax (Ne.symm (zaw (qL hch.mp.lt b8))) QaD)))
  refine Qak g8 _ (cat [#[.int .i64 ((pl:Nat):Int)],ints .u8 ((keyV (itV s0 pl)).take 32),#[.slice a13_ (((keyV (itV s0 pl)).drop 32).length) c13_]]) 60 r8_3 rfl kj (Qal 60 _ _ g8 60 _ _ r8_3 rfl kj kj (isz (n:=34) kj (by rw [Qac,Qac,Qac]; simp only [qS,cat,(izT (Qbc (QaK _)))]; rfl)) (eqsz (n:=34) (by rw [Qac,Qac,Qac]; simp only [qS,cat,(izT (qZ (n:=32)))]; rfl) (by rw [Qac,Qac,Qac]; simp only [qS,cat,(izT (Qbc (QaK _)))]; rfl)) (Qbu _ (by intro a ha; simp only [za7,zal,or_false] at ha; rcases ha with rfl | rfl | rfl; exact (Qa9 _ rfl); exact (Qay _ _); exact (Qa9 _ rfl)))) fun W4 p4 r8_4=>?_
  have x4:Qah [g,mg] w W4:=Qah.puts x3 p4 (.inr b8)
  refine sg 1 kj <| sgN hK12 <| wp_ret ?_
  repeat (first | with_reducible refine goR1 ?_ | with_reducible refine goR2 ?_)
  exact (show bodyPost _ _ _ .ret _ _ from ret2 (.agg (cat [#[.int .i64 ((pl:Nat):Int)],ints .u8 ((keyV (itV s0 pl)).take 32),#[.slice a13_ (((keyV (itV s0 pl)).drop 32).length) c13_]])) (.nilIface) rfl (QaJ g8 60 _ r8_4 kj kj (isz (n:=34) kj (by rw [Qac,Qac,Qac]; simp only [qS,cat,(izT (Qbc (QaK _)))]; rfl))) (Qa0 kj) ⟨_,rfl,x4,(hch2.keep (p4.2.2.2.2 g (Ne.symm (Ne.symm (zaw (qL hch.glt b8))))) (p4.2.2.2.2 mg (Ne.symm (Ne.symm (zaw (qL hch.mp.lt b8)))))),_,rfl,zbe x2.size (hu13.puts p4 (Qcb hu13 (Qas r8_2)))⟩)
end Cn
end
section
namespace Wk
open Go Go.RowKit
open Rely Auto Own Sha
variable {P : Program} {ops : Array Oper} {Q : Exit → Act → World → Prop}
def allR (P : Program) (ops:Array Oper) (Q:Exit→Act→World→Prop) (Rd:World→Prop):Nat→Array Bool→Act→World→Prop
  | 0,listed,a,w=>zaA .any ops listed=[]∧Q .normal a w
  | fuel+1,listed,a,w=>(zaA .any ops listed=[]→Q .normal a w)∧∀ i∈zaA .any ops listed,wpOp P ops Q i (fun a' w'=>Rd w'∧allR P ops Q Rd fuel (listed.setIfInBounds i true) a' w') a w
theorem QhC {Rd : World→Prop}:∀ (fuel:Nat) (listed:Array Bool) (a:Act) (w:World),allR P ops Q Rd fuel listed a w→wpAny P .any ops Q fuel listed a w
  | 0,_,_,_,h=>h
  | _+1,_,_,_,h=>⟨h.1,fun i hi=>wpOp_mono (fun a w h=>QhC _ _ a w h.2) (h.2 i hi)⟩
def Qcr (P : Program) (ops:Array Oper) (Rd:World→Prop) (o:Oper) (v:Value) (a:Act):Prop :=
  (zaB o (yielded ops a.tmps)=true∧∀ w,Rd w→(execOp a.eval o).run P w=.ok (.value v) w)∨(zaB o (yielded ops a.tmps)=false∧v=undef)
theorem Qcr.wpOp {Rd : World→Prop} {i:Nat} {o:Oper} {v:Value} {a:Act} (hi:ops[i]? = some o) (hy:Qcr P ops Rd o v a) {K:Act→World→Prop} {w:World} (hw:Rd w) (h:K (a.put o.dst v) w):wpOp P ops Q i K a w:=by
  unfold Go.wpOp
  simp only [hi]
  rcases hy with ⟨hw1,hv⟩ | ⟨hw1,rfl⟩
  · simp only [hw1,if_true,Oper.wp,hv w hw,Oper.upon]; exact .inl h
  · simp only [hw1,Bool.false_eq_true,if_false]; exact h
theorem Qcr.same {Rd : World→Prop} {o:Oper} {v:Value} {a a':Act} (hy:Qcr P ops Rd o v a) (he:execOp a'.eval o=execOp a.eval o) (hw:zaB o (yielded ops a'.tmps)=zaB o (yielded ops a.tmps)):Qcr P ops Rd o v a':=by
  unfold Qcr at *
  rw [he,hw]
  exact hy
theorem Qlu {Rd : World→Prop} {j:Nat} {oi oj:Oper} {v:Value} (hj:ops[j]? = some oj) (hap:oi.apart ops oj=true) (hsi:∀ cs b,oi.op≠.select cs b) (hsj:∀ cs b,oj.op≠.select cs b)
    (hQ:∀ c a w,Q (.panic c) (a.put oi.dst v) w→Q (.panic c) a w) {K:Act→World→Prop} {a:Act} {w:World} (hy:Qcr P ops Rd oi v a) (h:wpOp P ops Q j K (a.put oi.dst v) w) :
    wpOp P ops Q j (fun a' w'=>Qcr P ops Rd oi v a'∧K (a'.put oi.dst v) w') a w:=by
  obtain ⟨h1,h2,h3⟩:=Oper.apart_spec hap
  have keep:∀ (a:Act),Qcr P ops Rd oi v a→∀ u,Qcr P ops Rd oi v (a.put oj.dst u):=fun a hy u=>hy.same (execOp_put oi hsi a oj.dst u h3) (wanted_put oi a oj.dst u h3)
  have keepD:∀ d,Qcr P ops Rd oi v { a with defers:=d::a.defers }:=fun d=>hy.same rfl rfl
  unfold wpOp at *
  simp only [hj] at *
  rw [wanted_put oj a oi.dst v h1] at h
  split
  · rename_i hw
    simp only [hw,if_true] at h
    rcases h with h | ⟨hasks,hlets⟩
    case inr=>exact .inr ⟨by unfold Oper.asks at *; rw [execOp_put oj hsj a oi.dst v h1] at hasks; exact hasks,hlets⟩
    refine .inl ?_
    unfold Oper.wp at *
    rw [execOp_put oj hsj a oi.dst v h1] at h
    generalize (execOp a.eval oj).run P w=r at *
    cases r with
    | ok n w' =>
      cases n <;> simp only [Oper.upon] at h ⊢
      case value u=>exact ⟨keep a hy u,by rw [←Act.put_comm a v u h2]; exact h⟩
      case skip=>exact ⟨keep a hy _,by rw [←Act.put_comm a v undef h2]; exact h⟩
      case defer d =>
        refine ⟨keep _ (keepD d) _,?_⟩
        rw [←Act.put_comm _ v undef h2,←Act.put_defers]
        exact h
      case enter f args =>
        refine Calls.mono h fun e w'' he=>?_
        cases e with
        | returned u=>exact ⟨keep a hy u,by rw [←Act.put_comm a v u h2]; exact he⟩
        | panicked c=>exact hQ _ _ _ he
        | outgrown=>exact he
      case row row args=>exact Rows.mono h fun u w'' he=>⟨keep a hy u,by rw [←Act.put_comm a v u h2]; exact he⟩
    | halt x w' =>
      cases x <;> simp only [Oper.upon] at h ⊢
      case panic u=>exact hQ _ _ _ h
  · rename_i hw
    simp only [hw] at h
    exact ⟨keep a hy _,by rw [←Act.put_comm a v undef h2]; exact h⟩
theorem Qix {Rd : World→Prop} {i:Nat} {oi:Oper} {v:Value} (hi:ops[i]? = some oi) (hsel:∀ (j:Nat) (o:Oper) cs b,ops[j]? = some o→o.op≠.select cs b) (hQ:∀ c a w,Q (.panic c) (a.put oi.dst v) w→Q (.panic c) a w) :
    ∀ (fuel:Nat) (listed:Array Bool) (a:Act) (w:World),Rd w →
      (∀ j oj,ops[j]? = some oj→j≠i→listed.getD j true=false→(∀ e∈oj.after,zaC .any e=true→e.on≠i)→oi.apart ops oj=true) →
      i∈zaA .any ops listed→Qcr P ops Rd oi v a→allR P ops Q Rd fuel (listed.setIfInBounds i true) (a.put oi.dst v) w→allR P ops Q Rd (fuel+1) listed a w:=by
  intro fuel
  induction fuel with
  | zero =>
    intro listed a w hw _ hr hy H
    refine ⟨fun h=>(by rw [h] at hr; cases hr),fun j hj=>?_⟩
    by_cases hji:j=i
    · subst hji; exact hy.wpOp hi hw ⟨hw,H⟩
    · have:=ready_mono hj hji
      rw [H.1] at this
      cases this
  | succ fuel ih =>
    intro listed a w hw hfree hr hy H
    refine ⟨fun h=>(by rw [h] at hr; cases hr),fun j hj=>?_⟩
    by_cases hji:j=i
    · subst hji; exact hy.wpOp hi hw ⟨hw,H⟩
    · have h1:=H.2 j (ready_mono hj hji)
      obtain ⟨hjun,oj,hoj,hall⟩:=mem_ready.1 hj
      have hnot:∀ e∈oj.after,zaC .any e=true→e.on≠i:=fun e he hb heq=>by
        have h1:=hall e he hb
        have h0:=(mem_ready.1 hr).1
        rw [heq] at h1
        rcases zap i listed.size with h' | h'
        · simp [h'] at h0 h1; rw [h0] at h1; cases h1
        · simp [zaD h'] at h1
      have h2:=Qlu hoj (hfree j oj hoj hji hjun hnot) (fun cs b=>hsel i oi cs b hi) (fun cs b=>hsel j oj cs b hoj) hQ hy h1
      have hfree':∀ k ok,ops[k]? = some ok→k≠i→(listed.setIfInBounds j true).getD k true=false→(∀ e∈ok.after,zaC .any e=true→e.on≠i)→oi.apart ops ok=true:=fun k ok hk hki hun hno=>by
        refine hfree k ok hk hki ?_ hno
        by_cases hjk:j=k
        · subst hjk; exact hjun
        · rw [getD_set_ne true hjk] at hun; exact hun
      refine wpOp_mono (fun a' w' h3=>⟨h3.2.1,ih (listed.setIfInBounds j true) a' w' h3.2.1 hfree' (ready_mono hr (Ne.symm hji)) h3.1 ?_⟩) h2
      rw [Array.setIfInBounds_comm _ _ hji]
      exact h3.2.2
structure WB (P : Program) (ops : Array Oper) (Q : Exit → Act → World → Prop) (Rd : World → Prop) (fuel : Nat) (listed : Array Bool) (a : Act) (w : World) : Prop where
  out:Rd w→allR P ops Q Rd fuel listed a w
structure WO (P : Program) (ops : Array Oper) (Q : Exit → Act → World → Prop) (Rd : World → Prop) (k fuel : Nat) (listed : Array Bool) (a : Act) (w : World) : Prop where
  out:wpOp P ops Q k (fun a' w'=>Rd w'∧allR P ops Q Rd fuel (listed.setIfInBounds k true) a' w') a w
variable {o : Oper} {N : Nat} {L : Env} {w V : World} {ds : List Deferred} {fuel : Nat} {listed : Array Bool} {k : Nat} {a : Act} {Rd : World → Prop}
theorem Qdd {id : Nat} {l:List Oper} (Rd:World→Prop) (hm:P.follows .mixedOrders=true) (h:∀ W,Ext w W→Rd W∧WB P l.toArray Q Rd l.length (zaE l.length false) (Qau ds N L) W):(zaF id l.toArray true).wp P Q (Qau ds N L) w:=by
  refine wp_region_any hm ?_
  obtain ⟨h1,h2⟩:=h w.drew (Qan w)
  have:=QhC _ _ _ _ (h2.out h1)
  simpa using this
theorem QaV (k : Nat) (v:Value) (d:Nat) (ho:ops[k]? = some o) (hd:o.dst=some d) (hg:Qbn ops o N L=some true) (hc:(zaG ops&&Region.free .any ops listed k&&(zaA .any ops listed).contains k)=true)
    (hQ:∀ c a w,Q (.panic c) (a.put o.dst v) w→Q (.panic c) a w) (h:∀ W,Rd W→(execOp (Rely.look (envN N L)) o).run P W=.ok (.value v) W) (kk:WB P ops Q Rd fuel (listed.setIfInBounds k true) (Qau ds N ((d,v)::L)) w):WB P ops Q Rd (fuel+1) listed (Qau ds N L) w:=by
  simp only [Bool.and_eq_true] at hc
  refine ⟨fun hw=>Qix ho (zaH hc.1.1) hQ fuel listed _ w hw (Region.free_spec ho hc.1.2) (by simpa using hc.2) (.inl ⟨Qbr hg,fun W hW=>?_⟩) ?_⟩
  · rw [QaS]; exact h W hW
  · rw [hd,QaL]; exact kk.out hw
theorem QeV (k : Nat) (hr:zaA .any ops listed=[k]) (h:WO P ops Q Rd k fuel listed a w):WB P ops Q Rd (fuel+1) listed a w :=
  ⟨fun _=>⟨fun h0=>(by rw [hr] at h0; cases h0),fun i hi=>by
    rw [hr] at hi; obtain rfl:i=k:=by simpa using hi
    exact h.out⟩⟩
def Ef (P : Program) (o:Oper) (ρ:Operand→Value) (W:World) (φ:Value→World→Prop):Prop :=
  (∃ v W',(execOp ρ o).run P W=.ok (.value v) W'∧Ext W W'∧φ v W')∨∃ f args,(execOp ρ o).run P W=.ok (.enter f args) W∧Calls P f args W fun e W'=>∃ v,e=.returned v∧Ext W W'∧φ v W'
theorem Qi4 (hr : zaA .any ops listed=[]) (h:Q .normal (Qau ds N L) w):WB P ops Q Rd fuel listed (Qau ds N L) w :=
  ⟨fun _=>by cases fuel with
    | zero=>exact ⟨hr,h⟩
    | succ n=>exact ⟨fun _=>h,by rw [hr]; simp⟩⟩
end Wk
end
section
namespace Wr
open Go Go.RowKit
open Rely Auto Own Sha
theorem typW {W : World} {a b:Nat} {c d:Array Value} {s t:TypeId} (h:W.heap[a]? = some (.cells c s)) (k:W.heap[b]? = some (.cells d t)) (hn:s≠t):a≠b:=fun e=>by
  subst e
  rw [h] at k
  simp only [Option.some.injEq,Obj.cells.injEq] at k
  exact hn k.2.1
theorem QiV {k : IntKind} {T:TypeId} {base:Nat} {xs:List Int} {v:Value} {W:World} (h:OwnN k T base xs v W) {g:Nat} (hg:v.ownBlock=some g):∃ cur,W.heap[g]? = some (.cells cur T):=by
  rcases h.1.2 with ⟨rfl,_⟩ | ⟨g',c,cur,rfl,q2,q3,_⟩
  · cases hg
  · obtain rfl:g'=g:=Option.some.inj hg
    exact ⟨cur,q3⟩
theorem nb_typ {k : IntKind} {T T':TypeId} {base g:Nat} {xs:List Int} {v:Value} {W:World} {c:Array Value} (h:OwnN k T base xs v W) (r:W.heap[g]? = some (.cells c T')) (hn:T≠T'):v.ownBlock≠some g:=fun e=>by
  obtain ⟨cur,q⟩:=QiV h e
  exact typW q r hn rfl
theorem ownN_but {k : IntKind} {T:TypeId} {b g:Nat} {xs:List Int} {v:Value} {W W':World} (h:OwnN k T b xs v W) (q:ExtB g W W') (hn:v.ownBlock≠some g):OwnN k T b xs v W':=h.keep fun k hk=>q.2.2.2.2 k (h.lt hk) (fun e=>hn (by rw [hk,e]))
theorem bytes_app {a b:List Int} (ha:Qaj a) (hb:Qaj b):Qaj (a++b):=fun x hx=>(za8.1 hx).elim (ha x) (hb x)
structure GW (base gw : Nat) (w W : World) : Prop where
  os:W.os=w.os
  tape:W.tape=w.tape
  output:W.output=w.output
  size:w.heap.size≤W.heap.size
  block:∀ k,k<w.heap.size→k≠gw→(k<base∨∀ cs fr,w.heap[k]?≠some (.cells cs 5 fr))→W.heap[k]? = w.heap[k]?
theorem GW.refl (base gw:Nat) (w:World):GW base gw w w:=⟨rfl,rfl,rfl,qR _,fun _ _ _ _=>rfl⟩
theorem GW.trans {base gw:Nat} {u w W:World} (h:GW base gw u w) (k:GW base gw w W):GW base gw u W :=
  ⟨k.os.trans h.os,k.tape.trans h.tape,k.output.trans h.output,qT h.size k.size,fun i hi hn hc=>by
    have e:=h.block i hi hn hc
    refine (k.block i (qL hi h.size) hn ?_).trans e
    rcases hc with hc | hc
    · exact .inl hc
    · exact .inr fun cs fr=>by rw [e]; exact hc cs fr⟩
theorem GW.of_ext {base gw:Nat} {w W:World} (e:Ext w W):GW base gw w W:=⟨e.os,e.tape,e.output,e.size,fun k hk _ _=>e.block k hk⟩
theorem GW.ext {base gw:Nat} {u w W:World} (h:GW base gw u w) (e:Ext w W):GW base gw u W:=h.trans (GW.of_ext e)
theorem GW.of_but {base gw:Nat} {w W:World} (e:ExtB gw w W):GW base gw w W:=⟨e.1,e.2.1,e.2.2.1,e.2.2.2.1,fun k hk hn _=>e.2.2.2.2 k hk hn⟩
theorem GW.putg {base gw:Nat} {u w W:World} (h:GW base gw u w) (p:Puts w gw W):GW base gw u W :=
  ⟨p.1.trans h.os,p.2.1.trans h.tape,p.2.2.1.trans h.output,by have:=h.size; have:=p.2.2.2.1; omega,fun k hk hn hc=>(p.2.2.2.2 k hn).trans (h.block k hk hn hc)⟩
theorem GW.row {base gw g:Nat} {w W:World} {c:Array Value} {T:TypeId} (h:GW base gw w W) (r:w.heap[g]? = some (.cells c T)) (hT:T≠5) (hn:g≠gw):W.heap[g]? = some (.cells c T) :=
  (h.block g (Qas r) hn (.inr fun cs fr e=>by rw [r] at e; simp only [Option.some.injEq,Obj.cells.injEq] at e; exact hT e.2.1)).trans r
theorem Qm6 {base gw:Nat} {w W:World} {ys:List Int} {v:Value} (h:RdK .u8 base ys v w) (q:GW base gw w W) (hb:base≤gw):RdK .u8 base ys v W:=h.keep q.size fun g hg hl=>q.block g hl (by omega) (.inl hg)
def WSt (base gw:Nat) (s:Option (List Int)) (W:World):Prop:=∃ (u:Value) (xs:List Int) (bad:Bool),W.heap[gw]? = some (.cells #[u,.bool bad] 109)∧OwnN .u8 5 base xs u W∧xs.length≤65536∧Qaj xs∧s=bif bad then none else some xs
theorem WSt.lt {base gw:Nat} {s:Option (List Int)} {W:World} (h:WSt base gw s W):gw<W.heap.size:=by
  obtain ⟨u,xs,bad,h1,-⟩:=h
  exact Qas h1
theorem WSt.ext {base gw:Nat} {s:Option (List Int)} {w W:World} (h:WSt base gw s w) (e:Ext w W):WSt base gw s W:=by
  obtain ⟨u,xs,bad,h1,h2,h3⟩:=h
  exact ⟨u,xs,bad,Qab h1 e,h2.ext e,h3⟩
def rawS (s : Option (List Int)) (ys:List Int):Option (List Int):=s.bind fun xs=>if xs.length+ys.length≤65536 then some (xs++ys) else none
def byV (n : Int) (k:Nat):Int:=zaI.wrap (n.fdiv (2^(8*k)))
theorem Qgx (n : Int) (k:Nat):Qaj [byV n k]:=fun x hx=>by
  simp only [za7,zal,or_false] at hx
  subst hx
  have h3:∀ z:Int,zaI.wrap z=z%256:=fun _=>rfl
  unfold byV
  rw [h3]; omega
def numR (n : Int):Nat→Option (List Int)→Option (List Int)
  | 0,s=>s
  | k+1,s=>numR n k (rawS s [byV n k])
def okN (n : Int) (size:Nat):Bool:=decide (0≤n)&&(n.fdiv (2^(8*size))==0)
def mustS (s : Option (List Int)) (ok:Bool):Option (List Int):=bif ok then s else none
def numS (s : Option (List Int)) (n:Int) (size:Nat):Option (List Int):=numR n size (mustS s (okN n size))
def leafS (s : Option (List Int)) (n:Int):Option (List Int):=numS (mustS s (decide (n<32))) n 1
def bytS (s : Option (List Int)) (ys:List Int):Option (List Int):=rawS (numS s ((ys.length:Nat):Int) 2) ys
end Wr
end
open Wr.GW renaming refl → zbi, trans → zbj
section
namespace Wr
open Go Go.RowKit
open Rely Auto Own Sha
theorem QmI (gw : Nat) (u:Value) (ok:Bool) (w:World) (hg:w.heap[gw]? = some (.cells #[u,.bool true] 109)):Calls Tryd.prog 69 #[.pointer (some ⟨gw,0,none⟩),.bool ok] w (fun e W=>e=.returned (.tuple #[])∧ExtB gw w W∧W.heap[gw]? = some (.cells (cat [#[u],#[.bool true]]) 109)):=by
  refine enter 15 [(0,.pointer (some ⟨gw,0,none⟩)),(1,.bool ok)] Tryd.func69 rfl rfl kj rfl ?_
  refine Qad ?_
  refine Qaa (.pointer (some ⟨gw,0,none⟩)) 4 rfl kj kj ?_
  refine Qaa (.pointer (some ⟨gw,0,none⟩)) 5 rfl kj kj ?_
  refine Qaa (.pointer (some ⟨gw,0,none⟩)) 6 rfl kj kj ?_
  refine Qaa (.pointer (some ⟨gw,1,none⟩)) 7 rfl kj kj ?_
  refine Qaa (.bool true) 8 rfl kj (Qae 4 _ gw 1 109 _ (.bool true) _ hg rfl kj kj kj) ?_
  refine Qaa (.bool true) 9 rfl kj kj ?_
  refine Qbi 10 rfl kj ?_
  refine Qbi 11 rfl kj ?_
  refine Qaa (.bool true) 12 rfl kj kj ?_
  refine Qaa (.pointer (some ⟨gw,0,none⟩)) 13 rfl kj kj ?_
  refine Qaa (.pointer (some ⟨gw,1,none⟩)) 14 rfl kj kj ?_
  refine Qak gw _ (cat [#[u],#[.bool true]]) 109 hg rfl kj (Qbe 4 _ _ gw 1 109 _ (.bool true) hg rfl kj kj kj kj kj rfl) fun W1 p1 r1_1=>?_
  have x1:ExtB gw w W1:=ExtB.puts (zbc gw w) p1
  refine Qag ?_
  repeat (first | with_reducible refine goX1 ?_ | with_reducible refine goX2 ?_ | with_reducible refine goX3 ?_)
  exact (show bodyPost _ _ _ .normal _ _ from end0 rfl ⟨rfl,x1,r1_1⟩)
theorem QmH (gw : Nat) (u:Value) (ok:Bool) (w:World) (hg:w.heap[gw]? = some (.cells #[u,.bool false] 109)):Calls Tryd.prog 69 #[.pointer (some ⟨gw,0,none⟩),.bool ok] w (fun e W=>e=.returned (.tuple #[])∧ExtB gw w W∧W.heap[gw]? = some (.cells (cat [#[u],#[.bool (!ok)]]) 109)):=by
  refine enter 15 [(0,.pointer (some ⟨gw,0,none⟩)),(1,.bool ok)] Tryd.func69 rfl rfl kj rfl ?_
  refine Qad ?_
  refine Qaa (.pointer (some ⟨gw,0,none⟩)) 4 rfl kj kj ?_
  refine Qaa (.pointer (some ⟨gw,0,none⟩)) 5 rfl kj kj ?_
  refine Qaa (.pointer (some ⟨gw,0,none⟩)) 6 rfl kj kj ?_
  refine Qaa (.pointer (some ⟨gw,1,none⟩)) 7 rfl kj kj ?_
  refine Qaa (.bool false) 8 rfl kj (Qae 4 _ gw 1 109 _ (.bool false) _ hg rfl kj kj kj) ?_
  refine Qaa (.bool false) 9 rfl kj kj ?_
  refine Qaa (.bool ok) 10 rfl kj kj ?_
  refine Qaa (.bool (!ok)) 11 rfl kj kj ?_
  refine Qaa (.bool (!ok)) 12 rfl kj kj ?_
  refine Qaa (.pointer (some ⟨gw,0,none⟩)) 13 rfl kj kj ?_
  refine Qaa (.pointer (some ⟨gw,1,none⟩)) 14 rfl kj kj ?_
  refine Qak gw _ (cat [#[u],#[.bool (!ok)]]) 109 hg rfl kj (Qbe 4 _ _ gw 1 109 _ (.bool (!ok)) hg rfl kj kj kj kj kj rfl) fun W1 p1 r1_1=>?_
  have x1:ExtB gw w W1:=ExtB.puts (zbc gw w) p1
  refine Qag ?_
  repeat (first | with_reducible refine goX1 ?_ | with_reducible refine goX2 ?_ | with_reducible refine goX3 ?_)
  exact (show bodyPost _ _ _ .normal _ _ from end0 rfl ⟨rfl,x1,r1_1⟩)
theorem Qkt (gw : Nat) (u:Value) (bad ok:Bool) (w:World) (hg:w.heap[gw]? = some (.cells #[u,.bool bad] 109)):Calls Tryd.prog 69 #[.pointer (some ⟨gw,0,none⟩),.bool ok] w (fun e W=>e=.returned (.tuple #[])∧ExtB gw w W∧W.heap[gw]? = some (.cells #[u,.bool (bad || !ok)] 109)):=by
  cases bad with
  | true=>exact QmI gw u ok w hg
  | false=>exact QmH gw u ok w hg
theorem Ql3 (base gw:Nat) (s:Option (List Int)) (ok:Bool) (w:World) (h:WSt base gw s w):Calls Tryd.prog 69 #[.pointer (some ⟨gw,0,none⟩),.bool ok] w (fun e W=>e=.returned (.tuple #[])∧GW base gw w W∧WSt base gw (mustS s ok) W):=by
  obtain ⟨u,xs,bad,h1,h2,h3,h4,rfl⟩:=h
  refine (Qkt gw u bad ok w h1).mono fun e W hh=>⟨hh.1,GW.of_but hh.2.1,u,xs,_,hh.2.2,?_,h3,h4,?_⟩
  · exact h2.keep fun g hg=>hh.2.1.2.2.2.2 g (h2.lt hg) (fun e=>nb_typ h2 h1 (by decide) (by rw [hg,e]))
  · cases bad <;> cases ok <;> rfl
end Wr
end
section
namespace Wr
open Go Go.RowKit
open Rely Auto Own Sha
section
variable {ds : List Deferred} {P : Program} {ops : Array Oper} {Q : Exit → Act → World → Prop} {rest : List Oper} {o : Oper} {N : Nat} {L : Env} {W : World}
theorem Qg5 (base gw b:Nat) (s x:Operand) (t:TypeId) (ho:o.op=.call { callee:=.builtin .append,args:=#[s,x],argTypes:=#[t,t] })
    (ht:P.underlying t=some (.slice 5)) (hi:(P.info? 5).map (fun i=>(i.zero,i.size,i.bytes))=some (some (.int .u8 0),1,b)) (hb8:b≤8) (d:Nat) (hd:o.dst=some d) (hg:Qbn ops o N L=some true) {B:Nat} {v y:Value} {xs ys:List Int}
    (hs:Rely.look (envN N L) s=v) (hx:Rely.look (envN N L) x=y) (h:OwnN .u8 5 base xs v W) (hy:RdK .u8 B ys y W) (hn:xs.length+ys.length≤1000000000) (hV:base≤W.heap.size) {c:Array Value} (r:W.heap[gw]? = some (.cells c 109))
    (kk:∀ (u:Value) (W':World),OwnN .u8 5 base (xs++ys) u W'→GW base gw W W'→W'.heap[gw]? = some (.cells c 109)→WL P ops Q rest (Qau ds N ((d,u)::L)) W'):WL P ops Q (o::rest) (Qau ds N L) W:=by
  obtain ⟨v',W',h1,h2,h3,h4⟩:=QhB (ρ:=Rely.look (envN N L)) (o:=o) (W:=W) s x t ho ht hi hb8 hs hx h hy hn hV
  refine Qbv _ _ d hd hg h1 (kk v' W' h2 ⟨h3.os,h3.tape,h3.output,h3.size,fun i hi hne hc=>h3.block i hi (fun q=>?_)⟩ ((h3.block gw (Qas r) (fun q=>nb_typ h r (by decide) q.symm)).trans r))
  rcases hc with hc | hc
  · have:=h.ge q.symm; omega
  · obtain ⟨cur,e⟩:=QiV h q.symm
    exact hc cur _ e
end
theorem Qn1 (base gw:Nat) (u v:Value) (xs ys:List Int) (w:World) (hbw:base≤w.heap.size) (hg:w.heap[gw]? = some (.cells #[u,.bool true] 109)) (ho:OwnN .u8 5 base xs u w) (hxl:xs.length≤65536) (hyl:ys.length≤1000000) (hst:∀ W,ExtB gw w W→RdK .u8 W.heap.size ys v W) (ok:Bool) (hok:decide (((xs.length+ys.length:Nat):Int)≤65536)=ok) :
    Calls Tryd.prog 50 #[.pointer (some ⟨gw,0,none⟩),v] w (fun e W=>e=.returned (.tuple #[])∧GW base gw w W∧∃ u',W.heap[gw]? = some (.cells (cat [#[u'],#[.bool true]]) 109)∧OwnN .u8 5 base (xs) u' W):=by
  obtain ⟨a_u,c_u,rfl,-⟩:=id (zbf ho)
  obtain ⟨a_y,c_y,rfl,-⟩:=id (hst _ (zbc gw w))
  refine enter 29 [(0,.pointer (some ⟨gw,0,none⟩)),(1,.slice a_y ys.length c_y)] Tryd.func50 rfl rfl kj rfl ?_
  refine wp_seq_k fun K2 hK2=>?_
  refine Qad ?_
  refine Qaa (.pointer (some ⟨gw,0,none⟩)) 4 rfl kj kj ?_
  refine Qaa (.pointer (some ⟨gw,0,none⟩)) 5 rfl kj kj ?_
  refine Qaa (.pointer (some ⟨gw,0,none⟩)) 6 rfl kj kj ?_
  refine Qaa (.pointer (some ⟨gw,0,none⟩)) 7 rfl kj kj ?_
  refine Qaa (.slice a_u xs.length c_u) 8 rfl kj (Qae 33 _ gw 0 109 _ (.slice a_u xs.length c_u) _ hg rfl kj kj kj) ?_
  refine Qaa (.int .i64 ((xs.length:Nat):Int)) 9 rfl kj kj ?_
  refine Qaa (.slice a_y ys.length c_y) 10 rfl kj kj ?_
  refine Qaa (.int .i64 ((ys.length:Nat):Int)) 11 rfl kj kj ?_
  refine Qaa (.int .i64 ((xs.length+ys.length:Nat):Int)) 12 rfl kj (Qai (u:=.int .i64 (zaJ.wrap (((xs.length:Nat):Int)+((ys.length:Nat):Int)))) kj (congrArg (zaK .i64) (i64n _ _ (by omega) (by omega)))) ?_
  refine Qaa (.bool (ok)) 13 rfl kj (Qai (u:=.bool (decide (((xs.length+ys.length:Nat):Int)≤65536))) kj (congrArg zau hok)) ?_
  refine Qav (fun v W'=>v=.tuple #[]∧ExtB gw w W'∧W'.heap[gw]? = some (.cells (cat [#[.slice a_u xs.length c_u],#[.bool true]]) 109)) 69 #[.pointer (some ⟨gw,0,none⟩),.bool (ok)] 14 rfl kj kj ((Qkt gw _ _ _ _ hg).mono (by intro e w' h; exact ⟨_,h.1,rfl,h.2⟩)) fun v W1 h3=>?_
  obtain ⟨rfl,q1,r1_1⟩:=h3
  have x1:GW base gw w W1:=zbj (zbi base gw w) (GW.of_but q1)
  refine Qag ?_
  refine hK2 _ _ ?_
  refine wp_seq_k fun K4 hK4=>?_
  refine Qad ?_
  refine Qaa (.pointer (some ⟨gw,0,none⟩)) 15 rfl kj kj ?_
  refine Qaa (.pointer (some ⟨gw,0,none⟩)) 16 rfl kj kj ?_
  refine Qaa (.pointer (some ⟨gw,1,none⟩)) 17 rfl kj kj ?_
  refine Qaa (.bool true) 18 rfl kj (Qae 4 _ gw 1 109 _ (.bool true) _ r1_1 rfl kj kj kj) ?_
  refine Qaa (.bool false) 19 rfl kj kj ?_
  refine Qag ?_
  refine hK4 _ _ ?_
  refine cond_false kj ?_
  refine wp_skip ?_
  repeat (first | with_reducible refine goX1 ?_ | with_reducible refine goX2 ?_ | with_reducible refine goX3 ?_)
  have f5_1:=(ownN_but ho q1 (nb_typ ho hg (by decide)))
  exact (show bodyPost _ _ _ .normal _ _ from end0 rfl ⟨rfl,x1,_,r1_1,f5_1⟩)
theorem Qn0 (base gw:Nat) (u v:Value) (xs ys:List Int) (w:World) (hbw:base≤w.heap.size) (hg:w.heap[gw]? = some (.cells #[u,.bool false] 109)) (ho:OwnN .u8 5 base xs u w) (hxl:xs.length≤65536) (hyl:ys.length≤1000000) (hst:∀ W,ExtB gw w W→RdK .u8 W.heap.size ys v W) (h:65536<xs.length+ys.length) :
    Calls Tryd.prog 50 #[.pointer (some ⟨gw,0,none⟩),v] w (fun e W=>e=.returned (.tuple #[])∧GW base gw w W∧∃ u',W.heap[gw]? = some (.cells (cat [#[u'],#[.bool true]]) 109)∧OwnN .u8 5 base (xs) u' W):=by
  obtain ⟨a_u,c_u,rfl,-⟩:=id (zbf ho)
  obtain ⟨a_y,c_y,rfl,-⟩:=id (hst _ (zbc gw w))
  refine enter 29 [(0,.pointer (some ⟨gw,0,none⟩)),(1,.slice a_y ys.length c_y)] Tryd.func50 rfl rfl kj rfl ?_
  refine wp_seq_k fun K2 hK2=>?_
  refine Qad ?_
  refine Qaa (.pointer (some ⟨gw,0,none⟩)) 4 rfl kj kj ?_
  refine Qaa (.pointer (some ⟨gw,0,none⟩)) 5 rfl kj kj ?_
  refine Qaa (.pointer (some ⟨gw,0,none⟩)) 6 rfl kj kj ?_
  refine Qaa (.pointer (some ⟨gw,0,none⟩)) 7 rfl kj kj ?_
  refine Qaa (.slice a_u xs.length c_u) 8 rfl kj (Qae 33 _ gw 0 109 _ (.slice a_u xs.length c_u) _ hg rfl kj kj kj) ?_
  refine Qaa (.int .i64 ((xs.length:Nat):Int)) 9 rfl kj kj ?_
  refine Qaa (.slice a_y ys.length c_y) 10 rfl kj kj ?_
  refine Qaa (.int .i64 ((ys.length:Nat):Int)) 11 rfl kj kj ?_
  refine Qaa (.int .i64 ((xs.length+ys.length:Nat):Int)) 12 rfl kj (Qai (u:=.int .i64 (zaJ.wrap (((xs.length:Nat):Int)+((ys.length:Nat):Int)))) kj (congrArg (zaK .i64) (i64n _ _ (by omega) (by omega)))) ?_
  refine Qaa (.bool false) 13 rfl kj (Qai (u:=.bool (decide (((xs.length+ys.length:Nat):Int)≤65536))) kj (congrArg zau (decide_eq_false (by omega)))) ?_
  refine Qav (fun v W'=>v=.tuple #[]∧ExtB gw w W'∧W'.heap[gw]? = some (.cells (cat [#[.slice a_u xs.length c_u],#[.bool true]]) 109)) 69 #[.pointer (some ⟨gw,0,none⟩),.bool false] 14 rfl kj kj ((Qkt gw _ _ _ _ hg).mono (by intro e w' h; exact ⟨_,h.1,rfl,h.2⟩)) fun v W1 h3=>?_
  obtain ⟨rfl,q1,r1_1⟩:=h3
  have x1:GW base gw w W1:=zbj (zbi base gw w) (GW.of_but q1)
  refine Qag ?_
  refine hK2 _ _ ?_
  refine wp_seq_k fun K4 hK4=>?_
  refine Qad ?_
  refine Qaa (.pointer (some ⟨gw,0,none⟩)) 15 rfl kj kj ?_
  refine Qaa (.pointer (some ⟨gw,0,none⟩)) 16 rfl kj kj ?_
  refine Qaa (.pointer (some ⟨gw,1,none⟩)) 17 rfl kj kj ?_
  refine Qaa (.bool true) 18 rfl kj (Qae 4 _ gw 1 109 _ (.bool true) _ r1_1 rfl kj kj kj) ?_
  refine Qaa (.bool false) 19 rfl kj kj ?_
  refine Qag ?_
  refine hK4 _ _ ?_
  refine cond_false kj ?_
  refine wp_skip ?_
  repeat (first | with_reducible refine goX1 ?_ | with_reducible refine goX2 ?_ | with_reducible refine goX3 ?_)
  have f5_1:=(ownN_but ho q1 (nb_typ ho hg (by decide)))
  exact (show bodyPost _ _ _ .normal _ _ from end0 rfl ⟨rfl,x1,_,r1_1,f5_1⟩)
theorem Qnz (base gw:Nat) (u v:Value) (xs ys:List Int) (w:World) (hbw:base≤w.heap.size) (hg:w.heap[gw]? = some (.cells #[u,.bool false] 109)) (ho:OwnN .u8 5 base xs u w) (hxl:xs.length≤65536) (hyl:ys.length≤1000000) (hst:∀ W,ExtB gw w W→RdK .u8 W.heap.size ys v W) (h:xs.length+ys.length≤65536) :
    Calls Tryd.prog 50 #[.pointer (some ⟨gw,0,none⟩),v] w (fun e W=>e=.returned (.tuple #[])∧GW base gw w W∧∃ u',W.heap[gw]? = some (.cells (cat [#[u'],#[.bool false]]) 109)∧OwnN .u8 5 base (xs++ys) u' W):=by
  obtain ⟨a_u,c_u,rfl,-⟩:=id (zbf ho)
  obtain ⟨a_y,c_y,rfl,-⟩:=id (hst _ (zbc gw w))
  refine enter 29 [(0,.pointer (some ⟨gw,0,none⟩)),(1,.slice a_y ys.length c_y)] Tryd.func50 rfl rfl kj rfl ?_
  refine wp_seq_k fun K2 hK2=>?_
  refine Qad ?_
  refine Qaa (.pointer (some ⟨gw,0,none⟩)) 4 rfl kj kj ?_
  refine Qaa (.pointer (some ⟨gw,0,none⟩)) 5 rfl kj kj ?_
  refine Qaa (.pointer (some ⟨gw,0,none⟩)) 6 rfl kj kj ?_
  refine Qaa (.pointer (some ⟨gw,0,none⟩)) 7 rfl kj kj ?_
  refine Qaa (.slice a_u xs.length c_u) 8 rfl kj (Qae 33 _ gw 0 109 _ (.slice a_u xs.length c_u) _ hg rfl kj kj kj) ?_
  refine Qaa (.int .i64 ((xs.length:Nat):Int)) 9 rfl kj kj ?_
  refine Qaa (.slice a_y ys.length c_y) 10 rfl kj kj ?_
  refine Qaa (.int .i64 ((ys.length:Nat):Int)) 11 rfl kj kj ?_
  refine Qaa (.int .i64 ((xs.length+ys.length:Nat):Int)) 12 rfl kj (Qai (u:=.int .i64 (zaJ.wrap (((xs.length:Nat):Int)+((ys.length:Nat):Int)))) kj (congrArg (zaK .i64) (i64n _ _ (by omega) (by omega)))) ?_
  refine Qaa (.bool true) 13 rfl kj (Qai (u:=.bool (decide (((xs.length+ys.length:Nat):Int)≤65536))) kj (congrArg zau (decide_eq_true (by omega)))) ?_
  refine Qav (fun v W'=>v=.tuple #[]∧ExtB gw w W'∧W'.heap[gw]? = some (.cells (cat [#[.slice a_u xs.length c_u],#[.bool false]]) 109)) 69 #[.pointer (some ⟨gw,0,none⟩),.bool true] 14 rfl kj kj ((Qkt gw _ _ _ _ hg).mono (by intro e w' h; exact ⟨_,h.1,rfl,h.2⟩)) fun v W1 h3=>?_
  obtain ⟨rfl,q1,r1_1⟩:=h3
  have x1:GW base gw w W1:=zbj (zbi base gw w) (GW.of_but q1)
  refine Qag ?_
  refine hK2 _ _ ?_
  refine wp_seq_k fun K4 hK4=>?_
  refine Qad ?_
  refine Qaa (.pointer (some ⟨gw,0,none⟩)) 15 rfl kj kj ?_
  refine Qaa (.pointer (some ⟨gw,0,none⟩)) 16 rfl kj kj ?_
  refine Qaa (.pointer (some ⟨gw,1,none⟩)) 17 rfl kj kj ?_
  refine Qaa (.bool false) 18 rfl kj (Qae 4 _ gw 1 109 _ (.bool false) _ r1_1 rfl kj kj kj) ?_
  refine Qaa (.bool true) 19 rfl kj kj ?_
  refine Qag ?_
  refine hK4 _ _ ?_
  refine cond_true kj ?_
  refine Qad ?_
  refine Qaa (.pointer (some ⟨gw,0,none⟩)) 20 rfl kj kj ?_
  refine Qaa (.pointer (some ⟨gw,0,none⟩)) 21 rfl kj kj ?_
  refine Qaa (.pointer (some ⟨gw,0,none⟩)) 22 rfl kj kj ?_
  refine Qaa (.pointer (some ⟨gw,0,none⟩)) 23 rfl kj kj ?_
  refine Qaa (.slice a_u xs.length c_u) 24 rfl kj (Qae 33 _ gw 0 109 _ (.slice a_u xs.length c_u) _ r1_1 rfl kj kj kj) ?_
  refine Qaa (.slice a_y ys.length c_y) 25 rfl kj kj ?_
  have f5_1:=(ownN_but ho q1 (nb_typ ho hg (by decide)))
  refine Qg5 base gw 1 (.tmp 24) (.tmp 25) 33 rfl kj kj (by decide) 26 rfl kj kj kj f5_1 (hst _ q1) (by omega) (qT hbw x1.size) r1_1 fun u2 W2 ho2 q2 r1_2=>?_
  have x2:GW base gw w W2:=zbj x1 q2
  have hnb2:u2.ownBlock≠some gw:=nb_typ ho2 r1_2 (by decide)
  obtain ⟨a2_,c2_,rfl,-⟩:=id (zbf ho2)
  refine Qaa (.pointer (some ⟨gw,0,none⟩)) 27 rfl kj kj ?_
  refine Qaa (.pointer (some ⟨gw,0,none⟩)) 28 rfl kj kj ?_
  refine Qak gw _ (cat [#[.slice a2_ ((xs++ys).length) c2_],#[.bool false]]) 109 r1_2 rfl kj (Qbe 33 _ _ gw 0 109 _ (.slice a2_ ((xs++ys).length) c2_) r1_2 rfl kj kj kj kj kj rfl) fun W3 p3 r1_3=>?_
  have x3:GW base gw w W3:=GW.putg x2 p3
  refine Qag ?_
  repeat (first | with_reducible refine goX1 ?_ | with_reducible refine goX2 ?_ | with_reducible refine goX3 ?_)
  have f7_3:=(ho2.puts p3 hnb2)
  exact (show bodyPost _ _ _ .normal _ _ from end0 rfl ⟨rfl,x3,_,r1_3,f7_3⟩)
theorem rawW (base gw:Nat) (s:Option (List Int)) (ys:List Int) (v:Value) (w:World) (hbw:base≤w.heap.size) (h:WSt base gw s w) (hyl:ys.length≤1000000) (hyb:Qaj ys) (hst:∀ W,ExtB gw w W→RdK .u8 W.heap.size ys v W):Calls Tryd.prog 50 #[.pointer (some ⟨gw,0,none⟩),v] w (fun e W=>e=.returned (.tuple #[])∧GW base gw w W∧WSt base gw (rawS s ys) W):=by
  obtain ⟨u,xs,bad,h1,h2,h3,h4,rfl⟩:=h
  cases bad with
  | true =>
    refine (Qn1 base gw u v xs ys w hbw h1 h2 h3 hyl hst _ rfl).mono fun e W ⟨a,b,u',c,d⟩=>⟨a,b,u',xs,true,c,d,h3,h4,rfl⟩
  | false =>
    by_cases hf:xs.length+ys.length≤65536
    · refine (Qnz base gw u v xs ys w hbw h1 h2 h3 hyl hst hf).mono fun e W ⟨a,b,u',c,d⟩=>⟨a,b,u',xs++ys,false,c,d,by rw [zac]; omega,bytes_app h4 hyb,?_⟩
      show rawS (some xs) ys=some (xs++ys)
      exact if_pos hf
    · refine (Qn0 base gw u v xs ys w hbw h1 h2 h3 hyl hst (by omega)).mono fun e W ⟨a,b,u',c,d⟩=>⟨a,b,u',xs,true,c,d,h3,h4,?_⟩
      show rawS (some xs) ys=none
      exact if_neg hf
end Wr
end
section
namespace Wr
open Go Go.RowKit
open Rely Auto Own Sha
theorem shrZ (n : Int) (k:Nat) (hk:k≤4):n.fdiv (2^min (((8*k:Nat):Int)).toNat zaJ.bits)=n.fdiv (2^(8*k)):=by
  rw [Int.toNat_natCast,Nat.min_eq_left (show 8*k≤zaJ.bits by show 8*k≤64; omega)]
theorem Qkr (base gw:Nat) (s:Option (List Int)) (n:Int) (size:Nat) (w:World) (hbw:base≤w.heap.size) (h:WSt base gw s w) (hsz:size≤4) (hn:0≤n):Calls Tryd.prog 51 #[.pointer (some ⟨gw,0,none⟩),.int .i64 n,.int .i64 ((size:Nat):Int)] w (fun e W=>e=.returned (.tuple #[])∧GW base gw w W∧WSt base gw (numS s n size) W):=by
 have hgw:=h.lt
 have hok:okN n size=(n.fdiv (2^(8*size))==0):=by unfold okN; simp [hn]
 refine enter 29 [(0,.pointer (some ⟨gw,0,none⟩)),(1,.int .i64 n),(2,.int .i64 ((size:Nat):Int))] Tryd.func51 rfl rfl kj rfl ?_
 refine wp_seq_k fun K1 hK1=>?_
 refine Qad ?_
 refine Qaa (.pointer (some ⟨gw,0,none⟩)) 6 rfl kj kj ?_
 refine Qaa (.int .i64 n) 7 rfl kj kj ?_
 refine Qaa (.bool true) 8 rfl kj (Qai (u:=.bool (decide (n≥0))) kj (congrArg zau (decide_eq_true (by omega)))) ?_
 refine Qaa (.bool true) 9 rfl kj kj ?_
 refine Qaa (.int .i64 n) 10 rfl kj kj ?_
 refine Qaa (.int .i64 ((size:Nat):Int)) 11 rfl kj kj ?_
 refine Qaa (.int .i64 ((8*size:Nat):Int)) 12 rfl kj (Qai (u:=.int .i64 (zaJ.wrap (8*((size:Nat):Int)))) kj (congrArg (zaK .i64) (i64n _ _ (by omega) (by omega)))) ?_
 refine Qaa (.int .i64 (n.fdiv (2^(8*size)))) 13 rfl kj (QaO .shr _ _ _ _ .i64 .i64 _ _ _ rfl kj kj (Qci _ _ _ _ _ _ (by omega) (shrZ n size (by omega)))) ?_
 refine Qaa (.bool (n.fdiv (2^(8*size))==0)) 14 rfl kj (Qai (u:=.bool (((n.fdiv (2^(8*size)))==0))) kj (congrArg zau rfl)) ?_
 refine Qaa (.bool (n.fdiv (2^(8*size))==0)) 15 rfl kj kj ?_
 refine Qav (fun v W'=>v=.tuple #[]∧GW base gw w W'∧WSt base gw (mustS s (n.fdiv (2^(8*size))==0)) W') 69 #[.pointer (some ⟨gw,0,none⟩),.bool (n.fdiv (2^(8*size))==0)] 16 rfl kj kj ((Ql3 base gw s (n.fdiv (2^(8*size))==0) _ h).mono (by rintro e w' ⟨rfl,h1,h2⟩; exact ⟨_,rfl,rfl,h1,h2⟩)) fun v2 W1 h2=>?_
 obtain ⟨rfl,q1,ws2⟩:=h2
 have x1:GW base gw w W1:=zbj (zbi base gw w) q1
 refine Qag ?_
 refine hK1 _ _ ?_
 refine wp_block ?_
 refine QaE (fun (s1:Nat×Option (List Int))=>[(0,.pointer (some ⟨gw,0,none⟩)),(1,.int .i64 n),(2,.int .i64 ((s1.1:Nat):Int))]) (fun (s1:Nat×Option (List Int)) W=>(s1.1≤size)∧(WSt base gw s1.2 W)∧(numR n s1.1 s1.2=numR n size (mustS s (n.fdiv (2^(8*size))==0)))∧(GW base gw w W)) (fun (s1:Nat×Option (List Int))=>s1.1) (size,mustS s (n.fdiv (2^(8*size))==0)) ⟨rfl,rfl,rfl,trivial⟩ ⟨(qR _),ws2,rfl,x1⟩ fun s1 X1 V1 hI1=>?_
 obtain ⟨j,sc⟩:=s1
 obtain ⟨hj,hws,hnum,xx1⟩:=hI1
 replace hj:j≤size:=hj
 replace hws:WSt base gw sc V1:=hws
 replace hnum:numR n j sc=numR n size (mustS s (n.fdiv (2^(8*size))==0)):=hnum
 replace xx1:GW base gw w V1:=xx1
 refine wp_seq_k fun K3 hK3=>?_
 refine wp_seq_k fun K4 hK4=>?_
 refine Qad ?_
 refine Qaa (.int .i64 ((j:Nat):Int)) 17 rfl kj kj ?_
 refine Qaa (.bool (decide (((j:Nat):Int)>0))) 18 rfl kj kj ?_
 refine Qag ?_
 refine hK4 _ _ ?_
 refine Qa3 (t:=decide (((j:Nat):Int)>0)) kj (fun c5=>?_) (fun c5=>?_)
 ·skip
  obtain ⟨jp,hjp⟩:∃ jp,j=jp+1:=⟨j-1,by have:=of_decide_eq_true c5; omega⟩
  refine wp_skip ?_
  refine hK3 _ _ ?_
  refine wp_block ?_
  refine wp_seq_k fun K6 hK6=>?_
  refine Qad ?_
  refine Qaa (.int .i64 ((j:Nat):Int)) 19 rfl kj kj ?_
  refine Qaa (.int .i64 (((jp:Nat):Int))) 20 rfl kj (Qai (u:=.int .i64 (zaJ.wrap (((j:Nat):Int)-1))) kj (congrArg (zaK .i64) (by rw [show ((j:Nat):Int)-1=((jp:Nat):Int) by omega]; exact IntWalk.i64_in _ (by omega)))) ?_
  refine Qaa (.int .i64 (((jp:Nat):Int))) 2 rfl kj kj ?_
  refine Qag ?_
  refine hK6 _ _ ?_
  refine Qad ?_
  refine Qaa (.pointer (some ⟨gw,0,none⟩)) 21 rfl kj kj ?_
  refine Qaa (.int .i64 n) 22 rfl kj kj ?_
  refine Qaa (.int .i64 (((jp:Nat):Int))) 23 rfl kj kj ?_
  refine Qaa (.int .i64 ((8*jp:Nat):Int)) 24 rfl kj (Qai (u:=.int .i64 (zaJ.wrap (8*(((jp:Nat):Int))))) kj (congrArg (zaK .i64) (i64n _ _ (by omega) (by omega)))) ?_
  refine Qaa (.int .i64 (n.fdiv (2^(8*jp)))) 25 rfl kj (QaO .shr _ _ _ _ .i64 .i64 _ _ _ rfl kj kj (Qci _ _ _ _ _ _ (by omega) (shrZ n jp (by omega)))) ?_
  refine Qaa (.int .u8 (byV n jp)) 26 rfl kj (Qai (u:=.int .u8 (zaI.wrap (n.fdiv (2^(8*jp))))) kj (congrArg (zaK .u8) rfl)) ?_
  refine Qbg (ints .u8 ([(byV n jp)])) 5 1 27 rfl kj kj fun g7 W3 l7 e3 r7_3=>?_
  have x3:GW base gw w W3:=GW.ext xx1 e3
  have ws8:=WSt.ext hws e3
  have b7:w.heap.size≤g7:=qT xx1.size l7
  refine Qav (fun v W'=>v=.tuple #[]∧GW base gw W3 W'∧WSt base gw (rawS sc [byV n jp]) W') 50 #[.pointer (some ⟨gw,0,none⟩),.slice (some ⟨g7,0,none⟩) 1 1] 28 rfl kj kj ((rawW base gw sc [byV n jp] _ _ (qT hbw x3.size) ws8 (by show 1≤1000000; decide) (Qgx n jp) (fun W e=>Qbw (xs:=[byV n jp]) (n:=1) rfl (zbd e r7_3 (Ne.symm (zaw (qL hgw b7)))) (Qas (zbd e r7_3 (Ne.symm (zaw (qL hgw b7))))) (by decide))).mono (by rintro e w' ⟨rfl,h1,h2⟩; exact ⟨_,rfl,rfl,h1,h2⟩)) fun v9 W4 h9=>?_
  obtain ⟨rfl,q4,ws9⟩:=h9
  have x4:GW base gw w W4:=zbj x3 q4
  refine Qag ?_
  repeat (first | with_reducible refine goX1 ?_ | with_reducible refine goX2 ?_ | with_reducible refine goX3 ?_)
  exact Qa5 (jp,rawS sc [byV n jp]) ⟨rfl,rfl,rfl,trivial⟩ ⟨(by omega),ws9,(by have h7:=hnum; rw [hjp] at h7; exact h7),x4⟩ (by omega)
 ·skip
  have hj0:j=0:=by have:=of_decide_eq_false c5; omega
  refine wp_exit ?_
  repeat (first | with_reducible refine goX1 ?_ | with_reducible refine goX2 ?_ | with_reducible refine goX3 ?_)
  exact (show bodyPost _ _ _ .normal _ _ from end0 rfl ⟨rfl,xx1,by have h9:sc=numR n size (mustS s (n.fdiv (2^(8*size))==0)):=(by have h7:=hnum; rw [hj0] at h7; exact h7); rw [h9] at hws; have h8:okN n size=(n.fdiv (2^(8*size))==0):=hok; unfold numS; rw [h8]; exact hws⟩)
theorem Qks (base gw:Nat) (s:Option (List Int)) (n:Int) (size:Nat) (w:World) (hbw:base≤w.heap.size) (h:WSt base gw s w) (hsz:size≤4) (hn:n<0):Calls Tryd.prog 51 #[.pointer (some ⟨gw,0,none⟩),.int .i64 n,.int .i64 ((size:Nat):Int)] w (fun e W=>e=.returned (.tuple #[])∧GW base gw w W∧WSt base gw (numS s n size) W):=by
 have hgw:=h.lt
 have hok:okN n size=false:=by unfold okN; simp [show ¬ 0≤n by omega]
 refine enter 29 [(0,.pointer (some ⟨gw,0,none⟩)),(1,.int .i64 n),(2,.int .i64 ((size:Nat):Int))] Tryd.func51 rfl rfl kj rfl ?_
 refine wp_seq_k fun K1 hK1=>?_
 refine Qad ?_
 refine Qaa (.pointer (some ⟨gw,0,none⟩)) 6 rfl kj kj ?_
 refine Qaa (.int .i64 n) 7 rfl kj kj ?_
 refine Qaa (.bool false) 8 rfl kj (Qai (u:=.bool (decide (n≥0))) kj (congrArg zau (decide_eq_false (by omega)))) ?_
 refine Qaa (.bool false) 9 rfl kj kj ?_
 refine Qbi 10 rfl kj ?_
 refine Qbi 11 rfl kj ?_
 refine Qbi 12 rfl kj ?_
 refine Qbi 13 rfl kj ?_
 refine Qbi 14 rfl kj ?_
 refine Qaa (.bool false) 15 rfl kj kj ?_
 refine Qav (fun v W'=>v=.tuple #[]∧GW base gw w W'∧WSt base gw (mustS s false) W') 69 #[.pointer (some ⟨gw,0,none⟩),.bool false] 16 rfl kj kj ((Ql3 base gw s false _ h).mono (by rintro e w' ⟨rfl,h1,h2⟩; exact ⟨_,rfl,rfl,h1,h2⟩)) fun v2 W1 h2=>?_
 obtain ⟨rfl,q1,ws2⟩:=h2
 have x1:GW base gw w W1:=zbj (zbi base gw w) q1
 refine Qag ?_
 refine hK1 _ _ ?_
 refine wp_block ?_
 refine QaE (fun (s1:Nat×Option (List Int))=>[(0,.pointer (some ⟨gw,0,none⟩)),(1,.int .i64 n),(2,.int .i64 ((s1.1:Nat):Int))]) (fun (s1:Nat×Option (List Int)) W=>(s1.1≤size)∧(WSt base gw s1.2 W)∧(numR n s1.1 s1.2=numR n size (mustS s false))∧(GW base gw w W)) (fun (s1:Nat×Option (List Int))=>s1.1) (size,mustS s false) ⟨rfl,rfl,rfl,trivial⟩ ⟨(qR _),ws2,rfl,x1⟩ fun s1 X1 V1 hI1=>?_
 obtain ⟨j,sc⟩:=s1
 obtain ⟨hj,hws,hnum,xx1⟩:=hI1
 replace hj:j≤size:=hj
 replace hws:WSt base gw sc V1:=hws
 replace hnum:numR n j sc=numR n size (mustS s false):=hnum
 replace xx1:GW base gw w V1:=xx1
 refine wp_seq_k fun K3 hK3=>?_
 refine wp_seq_k fun K4 hK4=>?_
 refine Qad ?_
 refine Qaa (.int .i64 ((j:Nat):Int)) 17 rfl kj kj ?_
 refine Qaa (.bool (decide (((j:Nat):Int)>0))) 18 rfl kj kj ?_
 refine Qag ?_
 refine hK4 _ _ ?_
 refine Qa3 (t:=decide (((j:Nat):Int)>0)) kj (fun c5=>?_) (fun c5=>?_)
 ·skip
  obtain ⟨jp,hjp⟩:∃ jp,j=jp+1:=⟨j-1,by have:=of_decide_eq_true c5; omega⟩
  refine wp_skip ?_
  refine hK3 _ _ ?_
  refine wp_block ?_
  refine wp_seq_k fun K6 hK6=>?_
  refine Qad ?_
  refine Qaa (.int .i64 ((j:Nat):Int)) 19 rfl kj kj ?_
  refine Qaa (.int .i64 (((jp:Nat):Int))) 20 rfl kj (Qai (u:=.int .i64 (zaJ.wrap (((j:Nat):Int)-1))) kj (congrArg (zaK .i64) (by rw [show ((j:Nat):Int)-1=((jp:Nat):Int) by omega]; exact IntWalk.i64_in _ (by omega)))) ?_
  refine Qaa (.int .i64 (((jp:Nat):Int))) 2 rfl kj kj ?_
  refine Qag ?_
  refine hK6 _ _ ?_
  refine Qad ?_
  refine Qaa (.pointer (some ⟨gw,0,none⟩)) 21 rfl kj kj ?_
  refine Qaa (.int .i64 n) 22 rfl kj kj ?_
  refine Qaa (.int .i64 (((jp:Nat):Int))) 23 rfl kj kj ?_
  refine Qaa (.int .i64 ((8*jp:Nat):Int)) 24 rfl kj (Qai (u:=.int .i64 (zaJ.wrap (8*(((jp:Nat):Int))))) kj (congrArg (zaK .i64) (i64n _ _ (by omega) (by omega)))) ?_
  refine Qaa (.int .i64 (n.fdiv (2^(8*jp)))) 25 rfl kj (QaO .shr _ _ _ _ .i64 .i64 _ _ _ rfl kj kj (Qci _ _ _ _ _ _ (by omega) (shrZ n jp (by omega)))) ?_
  refine Qaa (.int .u8 (byV n jp)) 26 rfl kj (Qai (u:=.int .u8 (zaI.wrap (n.fdiv (2^(8*jp))))) kj (congrArg (zaK .u8) rfl)) ?_
  refine Qbg (ints .u8 ([(byV n jp)])) 5 1 27 rfl kj kj fun g7 W3 l7 e3 r7_3=>?_
  have x3:GW base gw w W3:=GW.ext xx1 e3
  have ws8:=WSt.ext hws e3
  have b7:w.heap.size≤g7:=qT xx1.size l7
  refine Qav (fun v W'=>v=.tuple #[]∧GW base gw W3 W'∧WSt base gw (rawS sc [byV n jp]) W') 50 #[.pointer (some ⟨gw,0,none⟩),.slice (some ⟨g7,0,none⟩) 1 1] 28 rfl kj kj ((rawW base gw sc [byV n jp] _ _ (qT hbw x3.size) ws8 (by show 1≤1000000; decide) (Qgx n jp) (fun W e=>Qbw (xs:=[byV n jp]) (n:=1) rfl (zbd e r7_3 (Ne.symm (zaw (qL hgw b7)))) (Qas (zbd e r7_3 (Ne.symm (zaw (qL hgw b7))))) (by decide))).mono (by rintro e w' ⟨rfl,h1,h2⟩; exact ⟨_,rfl,rfl,h1,h2⟩)) fun v9 W4 h9=>?_
  obtain ⟨rfl,q4,ws9⟩:=h9
  have x4:GW base gw w W4:=zbj x3 q4
  refine Qag ?_
  repeat (first | with_reducible refine goX1 ?_ | with_reducible refine goX2 ?_ | with_reducible refine goX3 ?_)
  exact Qa5 (jp,rawS sc [byV n jp]) ⟨rfl,rfl,rfl,trivial⟩ ⟨(by omega),ws9,(by have h7:=hnum; rw [hjp] at h7; exact h7),x4⟩ (by omega)
 ·skip
  have hj0:j=0:=by have:=of_decide_eq_false c5; omega
  refine wp_exit ?_
  repeat (first | with_reducible refine goX1 ?_ | with_reducible refine goX2 ?_ | with_reducible refine goX3 ?_)
  exact (show bodyPost _ _ _ .normal _ _ from end0 rfl ⟨rfl,xx1,by have h9:sc=numR n size (mustS s false):=(by have h7:=hnum; rw [hj0] at h7; exact h7); rw [h9] at hws; have h8:okN n size=false:=hok; unfold numS; rw [h8]; exact hws⟩)
theorem Qf6 (base gw:Nat) (s:Option (List Int)) (n:Int) (size:Nat) (w:World) (hbw:base≤w.heap.size) (h:WSt base gw s w) (hsz:size≤4):Calls Tryd.prog 51 #[.pointer (some ⟨gw,0,none⟩),.int .i64 n,.int .i64 ((size:Nat):Int)] w (fun e W=>e=.returned (.tuple #[])∧GW base gw w W∧WSt base gw (numS s n size) W):=by
  by_cases hn:0≤n
  · exact Qkr base gw s n size w hbw h hsz hn
  · exact Qks base gw s n size w hbw h hsz (by omega)
theorem QnB (base gw:Nat) (s:Option (List Int)) (n:Int) (w:World) (hbw:base≤w.heap.size) (h:WSt base gw s w):Calls Tryd.prog 52 #[.pointer (some ⟨gw,0,none⟩),.int .i64 n] w (fun e W=>e=.returned (.tuple #[])∧GW base gw w W∧WSt base gw (leafS s n) W):=by
  have hgw:=h.lt
  refine enter 11 [(0,.pointer (some ⟨gw,0,none⟩)),(1,.int .i64 n)] Tryd.func52 rfl rfl kj rfl ?_
  refine wp_seq_k fun K1 hK1=>?_
  refine Qad ?_
  refine Qaa (.pointer (some ⟨gw,0,none⟩)) 4 rfl kj kj ?_
  refine Qaa (.int .i64 n) 5 rfl kj kj ?_
  refine Qaa (.bool (decide (n<32))) 6 rfl kj kj ?_
  refine Qav (fun v W'=>v=.tuple #[]∧GW base gw w W'∧WSt base gw (mustS s (decide (n<32))) W') 69 #[.pointer (some ⟨gw,0,none⟩),.bool (decide (n<32))] 7 rfl kj kj ((Ql3 base gw s (decide (n<32)) _ h).mono (by rintro e w' ⟨rfl,h1,h2⟩; exact ⟨_,rfl,rfl,h1,h2⟩)) fun v2 W1 h2=>?_
  obtain ⟨rfl,q1,ws2⟩:=h2
  have x1:GW base gw w W1:=zbj (zbi base gw w) q1
  refine Qag ?_
  refine hK1 _ _ ?_
  refine Qad ?_
  refine Qaa (.pointer (some ⟨gw,0,none⟩)) 8 rfl kj kj ?_
  refine Qaa (.int .i64 n) 9 rfl kj kj ?_
  refine Qav (fun v W'=>v=.tuple #[]∧GW base gw W1 W'∧WSt base gw (numS (mustS s (decide (n<32))) n 1) W') 51 #[.pointer (some ⟨gw,0,none⟩),.int .i64 n,.int .i64 1] 10 rfl kj kj ((Qf6 base gw _ n 1 _ (qT hbw x1.size) ws2 (by decide)).mono (by rintro e w' ⟨rfl,h1,h2⟩; exact ⟨_,rfl,rfl,h1,h2⟩)) fun v3 W2 h3=>?_
  obtain ⟨rfl,q2,ws3⟩:=h3
  have x2:GW base gw w W2:=zbj x1 q2
  refine Qag ?_
  repeat (first | with_reducible refine goX1 ?_ | with_reducible refine goX2 ?_ | with_reducible refine goX3 ?_)
  exact (show bodyPost _ _ _ .normal _ _ from end0 rfl ⟨rfl,x2,ws3⟩)
theorem Qnb (base gw:Nat) (s:Option (List Int)) (ys:List Int) (v:Value) (w:World) (hbw:base≤w.heap.size) (hbg:base≤gw) (h:WSt base gw s w) (hyl:ys.length≤1000000) (hyb:Qaj ys) (hy:RdK .u8 base ys v w):Calls Tryd.prog 53 #[.pointer (some ⟨gw,0,none⟩),v] w (fun e W=>e=.returned (.tuple #[])∧GW base gw w W∧WSt base gw (bytS s ys) W):=by
  have hgw:=h.lt
  obtain ⟨a_y,c_y,rfl,-⟩:=id hy
  refine enter 11 [(0,.pointer (some ⟨gw,0,none⟩)),(1,.slice a_y ys.length c_y)] Tryd.func53 rfl rfl kj rfl ?_
  refine wp_seq_k fun K1 hK1=>?_
  refine Qad ?_
  refine Qaa (.pointer (some ⟨gw,0,none⟩)) 4 rfl kj kj ?_
  refine Qaa (.slice a_y ys.length c_y) 5 rfl kj kj ?_
  refine Qaa (.int .i64 ((ys.length:Nat):Int)) 6 rfl kj kj ?_
  refine Qav (fun v W'=>v=.tuple #[]∧GW base gw w W'∧WSt base gw (numS (s) ((ys.length:Nat):Int) 2) W') 51 #[.pointer (some ⟨gw,0,none⟩),.int .i64 ((ys.length:Nat):Int),.int .i64 2] 7 rfl kj kj ((Qf6 base gw _ ((ys.length:Nat):Int) 2 _ (qT hbw (zbi base gw w).size) h (by decide)).mono (by rintro e w' ⟨rfl,h1,h2⟩; exact ⟨_,rfl,rfl,h1,h2⟩)) fun v2 W1 h2=>?_
  obtain ⟨rfl,q1,ws2⟩:=h2
  have x1:GW base gw w W1:=zbj (zbi base gw w) q1
  refine Qag ?_
  refine hK1 _ _ ?_
  refine Qad ?_
  refine Qaa (.pointer (some ⟨gw,0,none⟩)) 8 rfl kj kj ?_
  refine Qaa (.slice a_y ys.length c_y) 9 rfl kj kj ?_
  refine Qav (fun v W'=>v=.tuple #[]∧GW base gw W1 W'∧WSt base gw (rawS (numS (s) ((ys.length:Nat):Int) 2) ys) W') 50 #[.pointer (some ⟨gw,0,none⟩),.slice a_y ys.length c_y] 10 rfl kj kj ((rawW base gw _ ys _ _ (qT hbw x1.size) ws2 (by omega) hyb (fun W e=>RdK.here (RdK.extB (Qm6 hy x1 hbg) e hbg))).mono (by rintro e w' ⟨rfl,h1,h2⟩; exact ⟨_,rfl,rfl,h1,h2⟩)) fun v3 W2 h3=>?_
  obtain ⟨rfl,q2,ws3⟩:=h3
  have x2:GW base gw w W2:=zbj x1 q2
  refine Qag ?_
  repeat (first | with_reducible refine goX1 ?_ | with_reducible refine goX2 ?_ | with_reducible refine goX3 ?_)
  exact (show bodyPost _ _ _ .normal _ _ from end0 rfl ⟨rfl,x2,ws3⟩)
end Wr
end
section
namespace Wr
open Go Go.RowKit
open Rely Auto Own Sha
theorem GW.back {base gw:Nat} {u w W:World} (h:Ext u w) (q:GW base gw w W) (hb:u.heap.size≤base) (hg:u.heap.size≤gw):Ext u W :=
  ⟨q.os.trans h.os,q.tape.trans h.tape,q.output.trans h.output,qT h.size q.size,fun k hk=>(q.block k (qL hk h.size) (by omega) (.inl (by omega))).trans (h.block k hk)⟩
def PutR (base : Nat):Option (List Int)→Value→World→Prop
  | none=>fun v W=>v=.tuple #[.slice none 0 0,.iface 41 (.int .i64 3)]
  | some xs=>fun v W=>∃ u,v=.tuple #[u,.nilIface]∧OwnN .u8 5 base xs u W
def packS (s : Option (List Int)) (grp:List Int) (ep fr no:Int) (sealed:List Int):Option (List Int):=bytS (numS (leafS (numS (rawS s grp) ep 4) fr) no 4) sealed
theorem Qlq (base gw:Nat) (s:Option (List Int)) (grp:List Int) (ep fr no:Int) (sealed:List Int) (a_s:Option Addr) (c_s:Nat) (w:World) (hbw:base≤w.heap.size) (hbg:base≤gw) (h:WSt base gw s w) (hgl:grp.length=32) (hgb:Qaj grp) (hsl:sealed.length≤1000000) (hsb:Qaj sealed) (hs:RdK .u8 base sealed (.slice a_s sealed.length c_s) w):Calls Tryd.prog 36 #[.pointer (some ⟨gw,0,none⟩),.agg (cat [ints .u8 (grp),#[.int .i64 ep],#[.int .i64 fr],#[.int .i64 no],#[.slice a_s sealed.length c_s]])] w (fun e W=>e=.returned (.tuple #[])∧GW base gw w W∧WSt base gw (packS s grp ep fr no sealed) W):=by
  have hgw:=h.lt
  refine enter 24 [(0,.pointer (some ⟨gw,0,none⟩)),(1,.agg (cat [ints .u8 (grp),#[.int .i64 ep],#[.int .i64 fr],#[.int .i64 no],#[.slice a_s sealed.length c_s]]))] Tryd.func36 rfl rfl kj rfl ?_
  refine wp_seq_k fun K1 hK1=>?_
  refine Qad ?_
  refine Qam (cat [ints .u8 (grp),#[.int .i64 ep],#[.int .i64 fr],#[.int .i64 no],#[.slice a_s sealed.length c_s]]) 35 3 rfl kj kj fun g2 W1 l2 e1 r2_1=>?_
  have x1:GW base gw w W1:=GW.ext (zbi base gw w) e1
  have ws3:=WSt.ext h e1
  have b2:w.heap.size≤g2:=qT (zbi base gw w).size l2
  refine Qag ?_
  refine hK1 _ _ ?_
  refine wp_seq_k fun K4 hK4=>?_
  refine Qad ?_
  refine Qaa (.pointer (some ⟨gw,0,none⟩)) 4 rfl kj kj ?_
  refine Qaa (.pointer (some ⟨g2,0,none⟩)) 5 rfl kj kj ?_
  refine Qaa (.slice (some ⟨g2,0,none⟩) 32 32) 6 rfl kj kj ?_
  refine Qav (fun v W'=>v=.tuple #[]∧GW base gw W1 W'∧WSt base gw (rawS (s) grp) W') 50 #[.pointer (some ⟨gw,0,none⟩),.slice (some ⟨g2,0,none⟩) 32 32] 7 rfl kj kj ((rawW base gw _ grp _ _ (qT hbw x1.size) ws3 (by rw [hgl]; decide) hgb (fun W e=>(QdR 0 hgl (zbd e r2_1 (Ne.symm (zaw (qL hgw b2)))) (fun i hi=>QdG [] [#[.int .i64 ep],#[.int .i64 fr],#[.int .i64 no],#[.slice a_s sealed.length c_s]] grp 0 i (0+i) kj rfl (by rw [hgl]; exact hi)) (Qas (zbd e r2_1 (Ne.symm (zaw (qL hgw b2))))) (qR _) (by decide)))).mono (by rintro e w' ⟨rfl,h1,h2⟩; exact ⟨_,rfl,rfl,h1,h2⟩)) fun v5 W2 h5=>?_
  obtain ⟨rfl,q2,ws5⟩:=h5
  have x2:GW base gw w W2:=zbj x1 q2
  refine Qag ?_
  refine hK4 _ _ ?_
  refine wp_seq_k fun K6 hK6=>?_
  refine Qad ?_
  refine Qaa (.pointer (some ⟨gw,0,none⟩)) 8 rfl kj kj ?_
  refine Qaa (.pointer (some ⟨g2,32,none⟩)) 9 rfl kj kj ?_
  have r2_2:=(GW.row q2 r2_1 (by decide) (Ne.symm (zaw (qL hgw b2))))
  refine Qaa (.int .i64 ep) 10 rfl kj (Qae 3 _ g2 32 35 _ (.int .i64 ep) _ r2_2 rfl kj (Qaq [ints .u8 (grp)] [#[.int .i64 ep]] [#[.int .i64 fr],#[.int .i64 no],#[.slice a_s sealed.length c_s]] 32 ((Qap _ _).trans hgl) 0 _ rfl) kj) ?_
  refine Qav (fun v W'=>v=.tuple #[]∧GW base gw W2 W'∧WSt base gw (numS (rawS (s) grp) ep 4) W') 51 #[.pointer (some ⟨gw,0,none⟩),.int .i64 ep,.int .i64 4] 11 rfl kj kj ((Qf6 base gw _ ep 4 _ (qT hbw x2.size) ws5 (by decide)).mono (by rintro e w' ⟨rfl,h1,h2⟩; exact ⟨_,rfl,rfl,h1,h2⟩)) fun v7 W3 h7=>?_
  obtain ⟨rfl,q3,ws7⟩:=h7
  have x3:GW base gw w W3:=zbj x2 q3
  refine Qag ?_
  refine hK6 _ _ ?_
  refine wp_seq_k fun K8 hK8=>?_
  refine Qad ?_
  refine Qaa (.pointer (some ⟨gw,0,none⟩)) 12 rfl kj kj ?_
  refine Qaa (.pointer (some ⟨g2,33,none⟩)) 13 rfl kj kj ?_
  have r2_3:=(GW.row q3 r2_2 (by decide) (Ne.symm (zaw (qL hgw b2))))
  refine Qaa (.int .i64 fr) 14 rfl kj (Qae 3 _ g2 33 35 _ (.int .i64 fr) _ r2_3 rfl kj (Qaq [ints .u8 (grp),#[.int .i64 ep]] [#[.int .i64 fr]] [#[.int .i64 no],#[.slice a_s sealed.length c_s]] 33 (by rw [Qac,Qac]; simp only [qS,cat,((Qap _ _).trans hgl)]; rfl) 0 _ rfl) kj) ?_
  refine Qav (fun v W'=>v=.tuple #[]∧GW base gw W3 W'∧WSt base gw (leafS (numS (rawS (s) grp) ep 4) fr) W') 52 #[.pointer (some ⟨gw,0,none⟩),.int .i64 fr] 15 rfl kj kj ((QnB base gw _ fr _ (qT hbw x3.size) ws7).mono (by rintro e w' ⟨rfl,h1,h2⟩; exact ⟨_,rfl,rfl,h1,h2⟩)) fun v9 W4 h9=>?_
  obtain ⟨rfl,q4,ws9⟩:=h9
  have x4:GW base gw w W4:=zbj x3 q4
  refine Qag ?_
  refine hK8 _ _ ?_
  refine wp_seq_k fun K10 hK10=>?_
  refine Qad ?_
  refine Qaa (.pointer (some ⟨gw,0,none⟩)) 16 rfl kj kj ?_
  refine Qaa (.pointer (some ⟨g2,34,none⟩)) 17 rfl kj kj ?_
  have r2_4:=(GW.row q4 r2_3 (by decide) (Ne.symm (zaw (qL hgw b2))))
  refine Qaa (.int .i64 no) 18 rfl kj (Qae 3 _ g2 34 35 _ (.int .i64 no) _ r2_4 rfl kj (Qaq [ints .u8 (grp),#[.int .i64 ep],#[.int .i64 fr]] [#[.int .i64 no]] [#[.slice a_s sealed.length c_s]] 34 (by rw [Qac,Qac,Qac]; simp only [qS,cat,((Qap _ _).trans hgl)]; rfl) 0 _ rfl) kj) ?_
  refine Qav (fun v W'=>v=.tuple #[]∧GW base gw W4 W'∧WSt base gw (numS (leafS (numS (rawS (s) grp) ep 4) fr) no 4) W') 51 #[.pointer (some ⟨gw,0,none⟩),.int .i64 no,.int .i64 4] 19 rfl kj kj ((Qf6 base gw _ no 4 _ (qT hbw x4.size) ws9 (by decide)).mono (by rintro e w' ⟨rfl,h1,h2⟩; exact ⟨_,rfl,rfl,h1,h2⟩)) fun v11 W5 h11=>?_
  obtain ⟨rfl,q5,ws11⟩:=h11
  have x5:GW base gw w W5:=zbj x4 q5
  refine Qag ?_
  refine hK10 _ _ ?_
  refine Qad ?_
  refine Qaa (.pointer (some ⟨gw,0,none⟩)) 20 rfl kj kj ?_
  refine Qaa (.pointer (some ⟨g2,35,none⟩)) 21 rfl kj kj ?_
  have r2_5:=(GW.row q5 r2_4 (by decide) (Ne.symm (zaw (qL hgw b2))))
  refine Qaa (.slice a_s sealed.length c_s) 22 rfl kj (Qae 33 _ g2 35 35 _ (.slice a_s sealed.length c_s) _ r2_5 rfl kj (Qaq [ints .u8 (grp),#[.int .i64 ep],#[.int .i64 fr],#[.int .i64 no]] [#[.slice a_s sealed.length c_s]] [] 35 (by rw [Qac,Qac,Qac,Qac]; simp only [qS,cat,((Qap _ _).trans hgl)]; rfl) 0 _ rfl) kj) ?_
  refine Qav (fun v W'=>v=.tuple #[]∧GW base gw W5 W'∧WSt base gw (bytS (numS (leafS (numS (rawS (s) grp) ep 4) fr) no 4) sealed) W') 53 #[.pointer (some ⟨gw,0,none⟩),.slice a_s sealed.length c_s] 23 rfl kj kj ((Qnb base gw _ sealed _ _ (qT hbw x5.size) hbg ws11 (by omega) hsb (Qm6 hs x5 hbg)).mono (by rintro e w' ⟨rfl,h1,h2⟩; exact ⟨_,rfl,rfl,h1,h2⟩)) fun v12 W6 h12=>?_
  obtain ⟨rfl,q6,ws12⟩:=h12
  have x6:GW base gw w W6:=zbj x5 q6
  refine Qag ?_
  repeat (first | with_reducible refine goX1 ?_ | with_reducible refine goX2 ?_ | with_reducible refine goX3 ?_)
  exact (show bodyPost _ _ _ .normal _ _ from end0 rfl ⟨rfl,x6,ws12⟩)
end Wr
end
section
namespace Wr
open Go Go.RowKit
open Rely Auto Own Sha
theorem QiR (grp : List Int) (ep fr no:Int) (sealed:List Int) (a_s:Option Addr) (c_s:Nat) (w:World) (hgl:grp.length=32) (hgb:Qaj grp) (hsl:sealed.length≤1000000) (hsb:Qaj sealed) (hs:RdK .u8 w.heap.size sealed (.slice a_s sealed.length c_s) w):Calls Tryd.prog 35 #[.agg (cat [ints .u8 (grp),#[.int .i64 ep],#[.int .i64 fr],#[.int .i64 no],#[.slice a_s sealed.length c_s]]),.func (.func 36) #[] #[]] w (QbD w (PutR w.heap.size (packS (some []) grp ep fr no sealed))):=by
 refine enter 22 [(0,.agg (cat [ints .u8 (grp),#[.int .i64 ep],#[.int .i64 fr],#[.int .i64 no],#[.slice a_s sealed.length c_s]])),(1,.func (.func 36) #[] #[])] Tryd.func35 rfl rfl kj rfl ?_
 refine wp_seq_k fun K1 hK1=>?_
 refine Qad ?_
 refine Qam (cat [ints .u8 (grp),#[.int .i64 ep],#[.int .i64 fr],#[.int .i64 no],#[.slice a_s sealed.length c_s]]) 35 2 rfl kj kj fun g2 W1 l2 e1 r2_1=>?_
 have x1:Ext w W1:=zbb (zaY w) e1
 have b2:w.heap.size≤g2:=qT (zaY w).size l2
 refine Qaa (.slice none 0 0) 4 rfl kj kj ?_
 refine Qaa (.nilIface) 5 rfl kj kj ?_
 refine Qag ?_
 refine hK1 _ _ ?_
 refine wp_seq_k fun K3 hK3=>?_
 refine Qad ?_
 refine Qaa (.agg (cat [#[.slice none 0 0],#[.bool false]])) 7 rfl kj kj ?_
 refine Qam (cat [#[.slice none 0 0],#[.bool false]]) 109 8 rfl kj kj fun g4 W2 l4 e2 r4_2=>?_
 have x2:Ext w W2:=zbb x1 e2
 have b4:w.heap.size≤g4:=qT x1.size l4
 refine Qaa (.pointer (some ⟨g4,0,none⟩)) 6 rfl kj kj ?_
 refine Qag ?_
 refine hK3 _ _ ?_
 refine wp_seq_k fun K5 hK5=>?_
 refine Qad ?_
 refine Qaa (.func (.func 36) #[] #[]) 9 rfl kj kj ?_
 refine Qaa (.pointer (some ⟨g4,0,none⟩)) 10 rfl kj kj ?_
 have r2_2:=(Qab r2_1 e2)
 refine Qaa (.agg (cat [ints .u8 (grp),#[.int .i64 ep],#[.int .i64 fr],#[.int .i64 no],#[.slice a_s sealed.length c_s]])) 11 rfl kj (Qao 35 _ g2 35 _ _ r2_2 rfl kj kj (isz (n:=36) kj (by rw [Qac,Qac,Qac,Qac,Qac]; simp only [qS,cat,((Qap _ _).trans hgl)]; rfl))) ?_
 refine Qav (fun v W'=>v=.tuple #[]∧GW W1.heap.size g4 W2 W'∧WSt W1.heap.size g4 (packS (some []) grp ep fr no sealed) W') 36 #[.pointer (some ⟨g4,0,none⟩),.agg (cat [ints .u8 (grp),#[.int .i64 ep],#[.int .i64 fr],#[.int .i64 no],#[.slice a_s sealed.length c_s]])] 12 rfl kj kj ((Qlq W1.heap.size g4 (some []) grp ep fr no sealed a_s c_s _ (qT (qR _) e2.size) l4 ⟨_,[],false,r4_2,Qes .u8 5 _ _,za1 _,(fun x hx=>by cases hx),rfl⟩ hgl hgb hsl hsb (RdK.more (RdK.ext hs x2) (qT (qR _) e1.size))).mono (by rintro e w' ⟨rfl,h1,h2⟩; exact ⟨_,rfl,rfl,h1,h2⟩)) fun v6 W3 h6=>?_
 obtain ⟨rfl,q3,u,xs,bad,rb3,ho,-,-,hS⟩:=h6
 have x3:Ext w W3:=GW.back x2 q3 (qT (qR _) e1.size) b4
 obtain ⟨au,cu,rfl,-⟩:=id (zbf ho)
 refine Qag ?_
 refine hK5 _ _ ?_
 refine wp_seq_k fun K7 hK7=>?_
 refine wp_seq_k fun K8 hK8=>?_
 refine Qad ?_
 refine Qaa (.pointer (some ⟨g4,0,none⟩)) 13 rfl kj kj ?_
 refine Qaa (.pointer (some ⟨g4,0,none⟩)) 14 rfl kj kj ?_
 refine Qaa (.pointer (some ⟨g4,1,none⟩)) 15 rfl kj kj ?_
 refine Qaa (.bool bad) 16 rfl kj (Qae 4 _ g4 1 109 _ (.bool bad) _ rb3 rfl kj kj kj) ?_
 refine Qag ?_
 refine hK8 _ _ ?_
 refine Qa3 (t:=bad) kj (fun c9=>?_) (fun c9=>?_)
 ·skip
  refine wp_seq_k fun K10 hK10=>?_
  refine Qad ?_
  refine Qaa (.iface 41 (.int .i64 3)) 17 rfl kj kj ?_
  refine Qaa (.slice none 0 0) 4 rfl kj kj ?_
  refine Qaa (.iface 41 (.int .i64 3)) 5 rfl kj kj ?_
  refine Qag ?_
  refine hK10 _ _ ?_
  refine wp_ret ?_
  repeat (first | with_reducible refine goR1 ?_ | with_reducible refine goR2 ?_)
  exact (show bodyPost _ _ _ .ret _ _ from ret2 (.slice none 0 0) (.iface 41 (.int .i64 3)) rfl (Qa0 kj) (Qa0 kj) ⟨_,rfl,x3,by rw [hS,c9]; exact rfl⟩)
 ·skip
  refine wp_skip ?_
  refine hK7 _ _ ?_
  refine wp_seq_k fun K11 hK11=>?_
  refine Qad ?_
  refine Qaa (.pointer (some ⟨g4,0,none⟩)) 18 rfl kj kj ?_
  refine Qaa (.pointer (some ⟨g4,0,none⟩)) 19 rfl kj kj ?_
  refine Qaa (.pointer (some ⟨g4,0,none⟩)) 20 rfl kj kj ?_
  refine Qaa (.slice au xs.length cu) 21 rfl kj (Qae 33 _ g4 0 109 _ (.slice au xs.length cu) _ rb3 rfl kj kj kj) ?_
  refine Qaa (.slice au xs.length cu) 4 rfl kj kj ?_
  refine Qaa (.nilIface) 5 rfl kj kj ?_
  refine Qag ?_
  refine hK11 _ _ ?_
  refine wp_ret ?_
  repeat (first | with_reducible refine goR1 ?_ | with_reducible refine goR2 ?_)
  exact (show bodyPost _ _ _ .ret _ _ from ret2 (.slice au xs.length cu) (.nilIface) rfl (Qa0 kj) (Qa0 kj) ⟨_,rfl,x3,by rw [hS,c9]; exact ⟨_,rfl,zbe (qT (qR _) e1.size) ho⟩⟩)
theorem PutPacket_S (grp : List Int) (ep fr no:Int) (sealed:List Int) (a_s:Option Addr) (c_s:Nat) (w:World) (hgl:grp.length=32) (hgb:Qaj grp) (hsl:sealed.length≤1000000) (hsb:Qaj sealed) (hs:RdK .u8 w.heap.size sealed (.slice a_s sealed.length c_s) w) (xs:List Int) (hS:packS (some []) grp ep fr no sealed=some xs):Calls Tryd.prog 22 #[.agg (cat [ints .u8 (grp),#[.int .i64 ep],#[.int .i64 fr],#[.int .i64 no],#[.slice a_s sealed.length c_s]])] w (QbD w (PutR w.heap.size (some xs))):=by
  refine enter 8 [(0,.agg (cat [ints .u8 (grp),#[.int .i64 ep],#[.int .i64 fr],#[.int .i64 no],#[.slice a_s sealed.length c_s]]))] Tryd.func22 rfl rfl kj rfl ?_
  refine wp_seq_k fun K1 hK1=>?_
  refine Qad ?_
  refine Qam (cat [ints .u8 (grp),#[.int .i64 ep],#[.int .i64 fr],#[.int .i64 no],#[.slice a_s sealed.length c_s]]) 35 1 rfl kj kj fun g2 W1 l2 e1 r2_1=>?_
  have x1:Ext w W1:=zbb (zaY w) e1
  have b2:w.heap.size≤g2:=qT (zaY w).size l2
  refine Qaa (.slice none 0 0) 2 rfl kj kj ?_
  refine Qaa (.nilIface) 3 rfl kj kj ?_
  refine Qag ?_
  refine hK1 _ _ ?_
  refine wp_seq_k fun K3 hK3=>?_
  refine Qad ?_
  refine Qaa (.agg (cat [ints .u8 (grp),#[.int .i64 ep],#[.int .i64 fr],#[.int .i64 no],#[.slice a_s sealed.length c_s]])) 4 rfl kj (Qao 35 _ g2 35 _ _ r2_1 rfl kj kj (isz (n:=36) kj (by rw [Qac,Qac,Qac,Qac,Qac]; simp only [qS,cat,((Qap _ _).trans hgl)]; rfl))) ?_
  refine Qav (fun v W'=>(PutR W1.heap.size (packS (some []) grp ep fr no sealed)) v W'∧Ext W1 W') 35 #[.agg (cat [ints .u8 (grp),#[.int .i64 ep],#[.int .i64 fr],#[.int .i64 no],#[.slice a_s sealed.length c_s]]),.func (.func 36) #[] #[]] 5 rfl kj kj ((QiR grp ep fr no sealed a_s c_s _ hgl hgb hsl hsb (RdK.here (RdK.ext hs x1))).mono (by rintro e w' ⟨v,rfl,e1,hv⟩; exact ⟨v,rfl,hv,e1⟩)) fun vv4 W2 hh4=>?_
  obtain ⟨hv4,e2⟩:=hh4
  have x2:Ext w W2:=zbb x1 e2
  rw [hS] at hv4
  obtain ⟨u5_,rfl,hu5_⟩:=hv4
  obtain ⟨a5_,c5_,rfl,-⟩:=id (zbf hu5_)
  refine Qaa (.slice a5_ ((xs).length) c5_) 6 rfl kj kj ?_
  refine Qaa (.nilIface) 7 rfl kj kj ?_
  refine Qaa (.slice a5_ ((xs).length) c5_) 2 rfl kj kj ?_
  refine Qaa (.nilIface) 3 rfl kj kj ?_
  refine Qag ?_
  refine hK3 _ _ ?_
  refine wp_ret ?_
  repeat (first | with_reducible refine goR1 ?_ | with_reducible refine goR2 ?_)
  exact (show bodyPost _ _ _ .ret _ _ from ret2 (.slice a5_ ((xs).length) c5_) (.nilIface) rfl (Qa0 kj) (Qa0 kj) ⟨_,rfl,x2,_,rfl,zbe x1.size hu5_⟩)
end Wr
end
section
section
namespace Rely
open Go Go.RowKit
def Qnp (M : Array Nat) (n len:Nat):Bool:=(zaL len).all fun j=>decide (j<n) || (zaL n).all fun i=>(M.getD j 0).testBit i
def QdI (len n:Nat):Array Bool:=(zam n true++zam (len-n) false).toArray
def okZ (l : List Oper) (n N:Nat) (S:List Src):Bool :=
  let M:=masks l #[]
  decide (n≤l.length)&&Qcy l M 0 (l.take n) S&&Qd0 N (l.take n)&&QcT 0 l&&Qnp M n l.length &&
  (l.drop n).all (fun o=>match o.dst with | some d=>(l.take n).all (·.dst != some d) | none=>true)
section
variable {P : Program} {R : World → World → Prop} {w0 : World} {a0 : Act}
theorem QeS {l : List Oper} {n N:Nat} {S:List Src} {E:List Fact} {Q:Exit→Act→World→Prop} (hok:okZ l n N S=true) (hN:a0.tmps.size=N) (hrf:∀ a,R a a) (htr:∀ {a b c:World},R a b→R b c→R a c)
    (hE:E.length=(l.take n).length) (hst:∀ φ∈E,Qb5 R φ)
    (hop:∀ j o s,(l.take n)[j]? = some o→S[j]? = some s→opOk P R w0 (slots a0) E o s (E.getD j fun _ _=>True))
    (hfin:∀ W,R w0 W→fin (fun a W=>wpAny P .any l.toArray Q (l.length-n) (QdI l.length n) a W) (l.take n) E a0 W) :
    ∀ (fuel:Nat) (listed:Array Bool) (a:Act) (W:World) (vs:Nat→Value),Inv R w0 a0 l.toArray E n listed a W vs→fuel=left l.toArray listed→wpAny P .any l.toArray Q fuel listed a W:=by
  simp only [okZ,Bool.and_eq_true,decide_eq_true_eq] at hok
  obtain ⟨⟨⟨⟨⟨hn,hsrc⟩,hdst⟩,hedge⟩,htail⟩,hdt⟩:=hok
  have hlen:(l.take n).length=n:=by simp [hn]
  have hget:∀ i,i<n→(l.take n)[i]? = l[i]?:=fun i hi=>by simp [hi]
  have hgd:∀ i,(E.getD i fun _ _=>True)=(fun _ _=>True)∨(E.getD i fun _ _=>True)∈E:=fun i=>by
    rcases zap i E.length with h | h
    · right; simp [h]
    · left; simp [zaM h]
  have hstg:∀ i,Qb5 R (E.getD i fun _ _=>True):=fun i=>by
    rcases hgd i with h | h
    · rw [h]; exact fun _ _ _ _ _=>trivial
    · exact hst _ h
  have hanc:∀ j i,((masks l #[]).getD j 0).testBit i=true→Anc l.toArray i j:=Qc1 l.toArray l #[] (fun j=>by simp) (fun j i h=>by simp at h)
  have count:∀ (listed:Array Bool),(∀ i,i<n→listed.getD i true=true)→(∀ i,n≤i→i<l.length→listed.getD i true=false)→left l.toArray listed=l.length-n:=by
    intro listed h1 h2
    unfold left
    simp only [List.size_toArray]
    have:∀ m,m≤l.length→(zaL m).countP (fun i=>!listed.getD i true)=m-n:=by
      intro m
      induction m with
      | zero=>intro _; simp
      | succ m ih =>
        intro hm
        rw [zaN,zaO,ih (by omega),zaP]
        by_cases hmn:m<n
        · simp only [h1 m hmn,Bool.not_true,Bool.false_eq_true,if_false]; omega
        · simp only [h2 m (by omega) (by omega),Bool.not_false,if_true]; omega
    exact this l.length (qR _)
  have done:∀ (fuel:Nat) (listed:Array Bool) (a:Act) (W:World) (vs:Nat→Value),Inv R w0 a0 l.toArray E n listed a W vs→fuel=left l.toArray listed→(∀ i,i<n→listed.getD i true=true)→wpAny P .any l.toArray Q fuel listed a W:=by
    intro fuel listed a W vs inv hf hall
    have hs:listed.size=l.length:=by simpa using inv.size
    have hall':∀ i,i<n→listed.getD i false=true:=fun i hi=>by
      cases hx:listed.getD i false with
      | true=>rfl
      | false=>have:=getD_in (by omega) hx; rw [hall i hi] at this; cases this
    have hl:listed=QdI l.length n:=by
      refine zaQ fun i=>?_
      unfold QdI
      by_cases h1:i<l.length
      · have h2:listed[i]? = some (listed.getD i false):=by simp [zaR,Array.getElem?_eq_getElem (show i<listed.size by omega)]
        rw [h2]
        by_cases h3:i<n
        · rw [hall' i h3]; simp [List.getElem?_append,h3]
        · rw [inv.tail i (by omega)]
          simp only [zaS]
          rw [zaq (by simp; omega),qZ,List.getElem?_replicate,if_pos (by omega)]
      · rw [zaD (by omega),zaS,zaM (by simp; omega)]
    have hfu:fuel=l.length-n:=by rw [hf]; exact count listed hall (fun i h1 h2=>getD_in (by omega) (inv.tail i h1))
    rw [hl,hfu]
    have hq:=QfA (l.take n) E a0 vs 0 (hfin W inv.rel) hE (fun i hi=>by
      rw [za9]
      exact inv.facts i (hall' i (by omega)) (by omega))
    have heq:QaP (l.take n) vs 0 a0=a:=by
      have hsz:=QbW (l.take n) vs 0 a0
      have ht:(QaP (l.take n) vs 0 a0).tmps=a.tmps:=by
        refine zaQ fun t=>?_
        by_cases hw:∃ (i:Nat) (o:Oper),(l.take n)[i]? = some o∧o.dst=some t
        · obtain ⟨i,o,hi,ho⟩:=hw
          have hin:i<n:=by have:=(zaz.1 hi).1; omega
          rw [QbL (l.take n) vs 0 a0 t i o hdst hN hi ho,za9]
          exact (inv.vals i o t (hall' i hin) hin (by rw [hget i hin] at hi; simpa using hi) ho).symm
        · rw [Qb9 (l.take n) vs 0 a0 t (fun o ho he=>by
            obtain ⟨i,hi⟩:=zat.1 ho
            exact hw ⟨i,o,hi,he⟩)]
          refine (inv.rest t fun i o _ hin hi he=>hw ⟨i,o,by rw [hget i hin]; simpa using hi,he⟩).symm
      have hd:=hsz.2.trans inv.defers.symm
      generalize QaP (l.take n) vs 0 a0=b at *
      cases a; cases b
      simp_all
    rw [heq] at hq
    exact hq
  have main:∀ (fuel:Nat) (listed:Array Bool) (a:Act) (W:World) (vs:Nat→Value),Inv R w0 a0 l.toArray E n listed a W vs→fuel=left l.toArray listed→wpAny P .any l.toArray Q fuel listed a W:=by
    intro fuel
    induction fuel with
    | zero =>
      intro listed a W vs inv hf
      refine done 0 listed a W vs inv hf fun i hi=>?_
      cases hx:listed.getD i true with
      | true=>rfl
      | false =>
        have:=Qew (ops:=l.toArray) (by simp; omega) hx
        omega
    | succ fuel ih =>
      intro listed a W vs inv hf
      by_cases hA:∀ i,i<n→listed.getD i true=true
      · exact done _ listed a W vs inv hf hA
      · have hs:listed.size=l.length:=by simpa using inv.size
        obtain ⟨i0,hi0,hu0⟩:∃ i,i<n∧listed.getD i true=false:=by
          refine Classical.byContradiction fun hc=>hA fun i hi=>?_
          cases hx:listed.getD i true with
          | true=>rfl
          | false=>exact absurd ⟨i,hi,hx⟩ hc
        refine ⟨fun hr=>?_,fun j hj=>?_⟩
        · obtain ⟨j,hj⟩:=QbK hedge (listed:=listed) i0 (by omega) hu0
          rw [hr] at hj; cases hj
        · obtain ⟨hju,oj,hoj,_⟩:=mem_ready.1 hj
          have hoj':l[j]? = some oj:=by simpa using hoj
          have hjl:j<l.length:=(zaz.1 hoj').1
          have hjn:j<n:=by
            rcases zap j n with h | h
            · exact h
            · exfalso
              have h3:=zaT.1 htail j (zaU.2 hjl)
              simp only [Bool.or_eq_true,decide_eq_true_eq] at h3
              rcases h3 with h3 | h3
              · omega
              · have h4:=zaT.1 h3 i0 (zaU.2 (by omega))
                have:=Qbj inv.closed hj (hanc j i0 h4)
                rw [QaM this] at hu0
                cases hu0
          obtain ⟨s,hsj,hso⟩:=Qd9 (l.take n) S 0 hsrc j oj (by rw [hget j hjn]; exact hoj')
          rw [za9] at hso
          simp only [Qg3,Bool.and_eq_true] at hso
          obtain ⟨hg,hrd⟩:=hso
          have hg':QcD l.toArray oj=some s.guard:=by simpa using hg
          have holds:∀ (r:List (Tmp×Option Nat)),r.all (QcH l (masks l #[]) j)=true→Qcw (slots a0) E (slots a) W r:=by
            intro r
            induction r with
            | nil=>intro _; trivial
            | cons x r ihr =>
              intro hr
              simp only [List.all_cons,Bool.and_eq_true] at hr
              obtain ⟨t,si⟩:=x
              cases si with
              | none =>
                refine ⟨?_,ihr hr.2⟩
                have h1:=hr.1
                simp only [QcH] at h1
                have h2:a.tmps[t]? = a0.tmps[t]?:=inv.rest t fun i o hli hin hio hd=>by
                  have h3:=zaT.1 h1 (o,i) (by
                    rw [zat]
                    refine ⟨i,?_⟩
                    rw [List.getElem?_zipIdx]
                    have:l[i]? = some o:=by simpa using hio
                    simp [this])
                  simp only [hd,bne_self_eq_false,Bool.false_or,Bool.or_eq_true,beq_iff_eq] at h3
                  have hlj:listed.getD j false=true:=by
                    rcases h3 with h3 | h3
                    · exact inv.closed.anc (hanc i j h3) hli
                    · rw [←h3]; exact hli
                  rw [QaM hlj] at hju
                  cases hju
                simp only [slots,zaR,h2]
              | some i =>
                refine ⟨?_,ihr hr.2⟩
                have h1:=hr.1
                simp only [QcH,Bool.and_eq_true,decide_eq_true_eq,beq_iff_eq] at h1
                obtain ⟨⟨hij,hbit⟩,hdi⟩:=h1
                have hli:=Qbj inv.closed hj (hanc j i hbit)
                obtain ⟨oi,hoi,hdi'⟩:∃ oi,l[i]? = some oi∧oi.dst=some t:=by
                  cases hx:l[i]? with
                  | none=>rw [hx] at hdi; cases hdi
                  | some oi=>rw [hx] at hdi; exact ⟨oi,rfl,hdi⟩
                have hv:=inv.vals i oi t hli (by omega) (by simpa using hoi) hdi'
                have:slots a t=vs i:=by simp only [slots,zaR,hv,Option.getD_some]
                rw [this]
                exact inv.facts i hli (by omega)
          have hopj:=hop j oj s (by rw [hget j hjn]; exact hoj') hsj (slots a) W inv.rel (holds s.reads hrd)
          have next:∀ v W',R W W'→(E.getD j fun _ _=>True) v W'→wpAny P .any l.toArray Q fuel (listed.setIfInBounds j true) (a.put oj.dst v) W':=by
            intro v W' hR hφ
            have hjs:j<listed.size:=by omega
            have hlist:∀ i,(listed.setIfInBounds j true).getD i false=true→i=j∨listed.getD i false=true:=fun i hi=>by
              by_cases hij:j=i
              · exact .inl hij.symm
              · rw [getD_set_ne false hij] at hi; exact .inr hi
            refine ih _ _ W' (fun i=>if i=j then v else vs i) ⟨by simp [inv.size],inv.closed.set hj,htr inv.rel hR,(put_defers _ _ _).trans inv.defers,(QcP _ _ _).trans inv.asize,?_,?_,?_,?_⟩ ?_
            · intro i hi hin
              by_cases hij:i=j
              · subst hij; simpa using hφ
              · simp only [hij,if_false]
                rcases hlist i hi with h | h
                · exact absurd h hij
                · exact hstg i _ _ _ hR (inv.facts i h hin)
            · intro i o d hi hin hio hd
              by_cases hij:i=j
              · subst hij
                obtain rfl:o=oj:=Option.some.inj (hio.symm.trans hoj)
                rw [hd,Qcx _ _ _ (by rw [inv.asize,hN]; exact QdZ (l.take n) hdst i o d (by rw [hget i hin]; exact hoj') hd)]
                simp
              · simp only [hij,if_false]
                rcases hlist i hi with h | h
                · exact absurd h hij
                · rw [Qb2 _ _ _ _ (QdY (l.take n) hdst i j o oj d (by rw [hget i hin]; simpa using hio) (by rw [hget j hjn]; exact hoj') hij hd)]
                  exact inv.vals i o d h hin hio hd
            · intro t ht
              rw [Qb2 _ _ _ _ (ht j oj (by simp [Array.getElem?_setIfInBounds_self_of_lt hjs]) hjn hoj)]
              exact inv.rest t fun i o hi hin hio=>ht i o (getD_set_true hi) hin hio
            · intro i hi
              rw [getD_set_ne false (by omega)]
              exact inv.tail i hi
            · have:=Qds hju inv.size
              omega
          refine QbN hoj ?_
          rw [QbF hg']
          by_cases hb:gOk s.guard (slots a)=true
          · rw [if_pos hb]
            refine QeA (R:=R) (W:=W) (φ:=E.getD j fun _ _=>True) (fun {_ _ _} h1 h2=>htr h1 h2) ?_ next
            cases hgd':s.guard with
            | none=>rw [hgd'] at hopj; exact hopj
            | some db =>
              rw [hgd'] at hopj hb
              exact (if_pos hb).mp hopj
          · rw [if_neg hb]
            refine next undef W (hrf W) ?_
            cases hgd':s.guard with
            | none=>rw [hgd'] at hb; exact absurd rfl hb
            | some db =>
              rw [hgd'] at hopj hb
              exact (if_neg hb).mp hopj
  exact main
def QhI {P : Program} {R:World→World→Prop} {Q:Exit→Act→World→Prop} {a:Act} {w:World} {l:List Oper} {n:Nat} (F:List Fact→Prop):Prop :=
  ∀ E,(∀ W,R w.drew W→fin (fun a W=>wpAny P .any l.toArray Q (l.length-n) (QdI l.length n) a W) (l.take n) E a W)→F E
theorem QhI.out {P : Program} {R:World→World→Prop} {Q:Exit→Act→World→Prop} {a:Act} {w:World} {l:List Oper} {n:Nat} {F:List Fact→Prop} (h:QhI (P:=P) (R:=R) (Q:=Q) (a:=a) (w:=w) (l:=l) (n:=n) F) {E:List Fact}
    (k:∀ W,R w.drew W→fin (fun a W=>wpAny P .any l.toArray Q (l.length-n) (QdI l.length n) a W) (l.take n) E a W):F E:=h E k
theorem Qe2 {id : Nat} {Q:Exit→Act→World→Prop} {a:Act} {w:World} {l:List Oper} (R:World→World→Prop) (n N:Nat) (S:List Src) (hm:P.follows .mixedOrders=true) (hok:okZ l n N S=true) (hN:a.tmps.size=N)
    (hrf:∀ a,R a a) (htr:∀ {a b c:World},R a b→R b c→R a c)
    (h:∀ (F:List Fact→Prop) (r0:Tmp→Value),r0=slots a→QhI (P:=P) (R:=R) (Q:=Q) (a:=a) (w:=w) (l:=l) (n:=n) F→relies P R w.drew r0 F (l.take n) S []):(zaF id l.toArray true).wp P Q a w:=by
  have hok':=hok
  simp only [okZ,Bool.and_eq_true,decide_eq_true_eq] at hok'
  obtain ⟨⟨⟨⟨⟨hn,hsrc⟩,hdst⟩,hedge⟩,htail⟩,hdt⟩:=hok'
  obtain ⟨E,hl,_,hst,hop,hfin⟩:=Qc6 (M:=masks l #[]) (l.take n) S [] (h (fun E=>∀ W,R w.drew W→fin (fun a W=>wpAny P .any l.toArray Q (l.length-n) (QdI l.length n) a W) (l.take n) E a W) _ rfl (show QhI _ from fun _ h=>h)) hsrc (fun _ h=>by cases h)
  refine wp_region_any hm ?_
  have hcount:l.toArray.size=left l.toArray (zaE l.toArray.size false):=by
    unfold left
    have:∀ m,m≤l.toArray.size→(zaL m).countP (fun i=>!(zaE l.toArray.size false).getD i true)=m:=by
      intro m
      induction m with
      | zero=>intro _; simp
      | succ m ih =>
        intro hm
        rw [zaN,zaO,ih (by omega),zaP]
        have:(zaE l.toArray.size false).getD m true=false:=by simp at hm ⊢; simp [show m<l.length by omega]
        simp only [this,Bool.not_false,if_true]
    exact (this _ (qR _)).symm
  refine QeS (R:=R) (w0:=w.drew) (a0:=a) hok hN hrf htr (by simpa using hl) hst (fun j o s hj hs=>by simpa using hop j o s hj hs) hfin _ _ a _ (fun _=>undef) ⟨by simp,?_,hrf _,rfl,rfl,?_,?_,?_,?_⟩ hcount
  · intro j o ho hl
    rw [getD_replicate_false] at hl; cases hl
  · intro i hi; rw [getD_replicate_false] at hi; cases hi
  · intro i o d hi; rw [getD_replicate_false] at hi; cases hi
  · intro t _; rfl
  · intro i _; exact getD_replicate_false _ _
end
end Rely
end
namespace Wk
open Go Go.RowKit
open Rely Auto
section
variable {P : Program} {ops : Array Oper} {Q : Exit → Act → World → Prop} {o : Oper} {N : Nat} {L : Env} {w : World} {ds : List Deferred} {fuel : Nat} {listed : Array Bool} {k : Nat}
structure WZ (P : Program) (ops : Array Oper) (Q : Exit → Act → World → Prop) (fuel : Nat) (listed : Array Bool) (a : Act) (w : World) : Prop where
  out:wpAny P .any ops Q fuel listed a w
theorem wz_val (k : Nat) (v:Value) (d:Nat) (ho:ops[k]? = some o) (hd:o.dst=some d) (hg:Qbn ops o N L=some true) (hc:(zaG ops&&Region.free .any ops listed k&&(zaA .any ops listed).contains k)=true)
    (hQ:∀ c a w,Q (.panic c) (a.put o.dst v) w→Q (.panic c) a w) (h:∀ W,(execOp (Rely.look (envN N L)) o).run P W=.ok (.value v) W) (kk:WZ P ops Q fuel (listed.setIfInBounds k true) (Qau ds N ((d,v)::L)) w):WZ P ops Q (fuel+1) listed (Qau ds N L) w:=by
  simp only [Bool.and_eq_true] at hc
  refine ⟨wpAny_take ho hc.1.1 hc.1.2 hc.2 hQ (.inl ⟨Qbr hg,fun W=>?_⟩) ?_⟩
  · rw [QaS]; exact h W
  · rw [hd,QaL]; exact kk.out
theorem wz_store (k : Nat) (g:Nat) (old cs:Array Value) (t:TypeId) (hgr:w.heap[g]? = some (.cells old t)) (hr:zaA .any ops listed=[k]) (ho:ops[k]? = some o) (hd:o.dst=none) (hg:Qbn ops o N L=some true)
    (h:(execOp (Rely.look (envN N L)) o).run P w=.ok .skip (w.setRow g cs)) (kk:∀ W,Puts w g W→W.heap[g]? = some (.cells cs t)→WZ P ops Q fuel (listed.setIfInBounds k true) (Qau ds N L) W):WZ P ops Q (fuel+1) listed (Qau ds N L) w:=by
  refine ⟨wpAny_all hr (by simp) fun i hi=>?_⟩
  obtain rfl:i=k:=by simpa using hi
  unfold wpOp
  rw [ho]
  simp only [Qbr hg,if_true]
  refine .inl ?_
  unfold Oper.wp
  rw [QaS,h]
  show wpAny _ _ _ _ _ _ _ _
  rw [hd]
  exact (kk _ (QaW _ _ _) (setRow_heap _ _ _ _ _ _ hgr)).out
theorem wz_nil (hr : zaA .any ops listed=[]) (h:Q .normal (Qau ds N L) w):WZ P ops Q fuel listed (Qau ds N L) w:=⟨wpAny_done hr h fuel⟩
theorem any_regionEZ {id : Nat} {l:List Oper} (n:Nat) (S:List Src) (hm:P.follows .mixedOrders=true) (hok:okZ l n N S=true)
    (h:∀ F:List KE→Prop,(∀ C,(∀ W,Ext w W→finE (fun L W=>WZ P l.toArray Q (l.length-n) (QdI l.length n) (Qau ds N L) W) (l.take n) C L W)→F C)→Qbk P Ext w.drew N L F (l.take n) S []) :
    (zaF id l.toArray true).wp P Q (Qau ds N L) w:=by
  refine Qe2 Ext n N S hm hok (QcE N L) zaY zaZ fun F r0 hr hF=>?_
  rw [QbG] at hr
  subst hr
  have:=h (fun C=>∀ W,Ext w.drew W→finE (fun L W=>WZ P l.toArray Q (l.length-n) (QdI l.length n) (Qau ds N L) W) (l.take n) C L W) (fun C h W hR=>h W (zaZ (Qan w) hR))
  exact Qct (G:=F) (fun C h=>hF.out fun W hR=>Qj2 (Q:=fun a W=>wpAny P .any l.toArray Q (l.length-n) (QdI l.length n) a W) _ _ _ (Qdg (fun L W h=>h.out) _ _ _ _ (h W hR))) _ _ [] this
end
end Wk
end
section
namespace Pk
open Go Go.RowKit
open Rely Auto Own Sha
open Cha
open Ae hiding run_storeQ
open Cn hiding nb_new run_extractT
section
open Wk
variable {P : Program} {ops : Array Oper} {Q : Exit → Act → World → Prop} {o : Oper} {N : Nat} {L : Env} {w : World} {ds : List Deferred} {fuel : Nat} {listed : Array Bool} {k : Nat} {a : Act} {Rd : World → Prop}
theorem Qfs {Rd : World→Prop} {k fuel N:Nat} {o:Oper} {listed:Array Bool} {ds:List Deferred} {L:Env} {w:World} (g:Nat) (old cs:Array Value) (t:TypeId) (hgr:w.heap[g]? = some (.cells old t)) (ho:ops[k]? = some o) (hd:o.dst=none) (hg:Qbn ops o N L=some true)
    (h:(execOp (Rely.look (envN N L)) o).run P w=.ok .skip (w.setRow g cs)) (hR:∀ W,Puts w g W→Rd W) (kk:∀ W,Puts w g W→W.heap[g]? = some (.cells cs t)→WB P ops Q Rd fuel (listed.setIfInBounds k true) (Qau ds N L) W):WO P ops Q Rd k fuel listed (Qau ds N L) w:=by
  refine ⟨?_⟩
  unfold wpOp
  rw [ho]
  simp only [Qbr hg,if_true]
  refine .inl ?_
  unfold Oper.wp
  rw [QaS,h]
  show _∧allR _ _ _ _ _ _ _ _
  rw [hd]
  exact ⟨hR _ (QaW _ _ _),(kk _ (QaW _ _ _) (setRow_heap _ _ _ _ _ _ hgr)).out (hR _ (QaW _ _ _))⟩
theorem QjJ {K : Act→World→Prop} {d:Nat} {R:Value→World→Prop} (ho:ops[k]? = some o) (hd:o.dst=some d) (hg:zaB o (yielded ops a.tmps)=true) (h:∃ f args,(execOp a.eval o).run P w=.ok (.enter f args) w∧Calls P f args w fun e W=>∃ v,e=.returned v∧R v W) (hK:∀ v W,R v W→K (a.put (some d) v) W):wpOp P ops Q k K a w:=by
  unfold wpOp
  rw [ho]
  simp only [hg,if_true]
  refine .inl ?_
  unfold Oper.wp
  obtain ⟨f,args,h1,h2⟩:=h
  rw [h1]
  refine h2.mono ?_
  rintro e w' ⟨v,rfl,h3⟩
  show K _ _
  rw [hd]; exact hK v w' h3
theorem QkQ {K : Act→World→Prop} {d:Nat} {R:Value→World→Prop} (ho:ops[k]? = some o) (hd:o.dst=some d) (hg:zaB o (yielded ops a.tmps)=true) (h:∃ v W,(execOp a.eval o).run P w=.ok (.value v) W∧R v W) (hK:∀ v W,R v W→K (a.put (some d) v) W):wpOp P ops Q k K a w:=by
  unfold wpOp
  rw [ho]
  simp only [hg,if_true]
  refine .inl ?_
  unfold Oper.wp
  obtain ⟨v,W,h1,h2⟩:=h
  rw [h1]
  show K _ _
  rw [hd]; exact hK v W h2
theorem QhG (d : Nat) (v:Value):∀ (p L:Env),(∀ x∈p,x.1≠d)→Qau ds N (p++(d,v)::L)=Qau ds N ((d,v)::(p++L))
  | [],L,_=>rfl
  | (e,u)::p,L,h=>by
    have h1:=QhG d v p L (fun x hx=>h x (List.mem_cons_of_mem _ hx))
    rw [za6,←QaL,h1,←QaL,Act.put_comm _ v u (fun x hx hy=>h (e,u) List.mem_cons_self (by cases hx; exact Option.some.inj hy)),QaL,QaL]
    rfl
theorem Qi5 (k l m:Nat) {o1 o2:Oper} (ho1:ops[k]? = some o1) (ho2:ops[l]? = some o2) (hr:zaA .any ops listed=[k,l]) (hr2:zaA .any ops (listed.setIfInBounds l true)=[k])
    (hap:(o1.apart ops o2&&o2.apart ops o1&&zaG ops)=true) (d1 d2:Nat) (hd1:o1.dst=some d1) (hd2:o2.dst=some d2) (hg1:Qbn ops o1 N L=some true) (hg2:∀ L',Qbn ops o2 N L'=some true)
    (Pre:World→Prop) (Kp:World→World→Prop) (φ ψ:Value→World→Prop) (pf:Value→Env) (LA LB LF:Array Bool) (hLF:LA.setIfInBounds l true=LF) (hLB:LF=LB) (hpf:∀ u,∀ x∈pf u,x.1≠d2) (hd:d1≠d2)
    (pe:∀ W W',Ext W W'→Pre W→Pre W') (re:∀ W W',Rd W→Ext W W'→Rd W') (φe:∀ v W W',Ext W W'→φ v W→φ v W') (ψk:∀ v W W',Rd W→Kp W W'→ψ v W→ψ v W')
    (h1:∀ W,Rd W→Pre W→∃ f args,(execOp (Rely.look (envN N L)) o1).run P W=.ok (.enter f args) W∧Calls P f args W fun e W'=>∃ u,e=.returned (.tuple #[u,.nilIface])∧Rd W'∧Kp W W'∧φ u W')
    (h2:∀ L' W,Rd W→∃ v W',(execOp (Rely.look (envN N L')) o2).run P W=.ok (.value v) W'∧Ext W W'∧ψ v W') (hw:Pre w)
    (fA:∀ (u:Value) (W:World),Rd W→WO P ops Q Rd l fuel LA (Qau ds N (pf u++(d1,.tuple #[u,.nilIface])::L)) W→WB P ops Q Rd (fuel+m+1) (listed.setIfInBounds k true) (Qau ds N ((d1,.tuple #[u,.nilIface])::L)) W)
    (fB:∀ (u v2:Value) (W:World),Rd W→WB P ops Q Rd fuel LB (Qau ds N (pf u++(d1,.tuple #[u,.nilIface])::(d2,v2)::L)) W→WB P ops Q Rd (fuel+m) ((listed.setIfInBounds l true).setIfInBounds k true) (Qau ds N ((d1,.tuple #[u,.nilIface])::(d2,v2)::L)) W)
    (kk:∀ (u v2:Value) (W:World),φ u W→ψ v2 W→Rd W→WB P ops Q Rd fuel LF (Qau ds N ((d2,v2)::(pf u++(d1,.tuple #[u,.nilIface])::L))) W):WB P ops Q Rd (fuel+m+2) listed (Qau ds N L) w:=by
  simp only [Bool.and_eq_true] at hap
  obtain ⟨⟨ha1,ha2⟩,hsl⟩:=hap
  obtain ⟨p1,p2,p3⟩:=Oper.apart_spec ha1
  have hs1:=fun cs b=>zaH hsl k o1 cs b ho1
  rw [hd1,hd2] at p2
  rw [hd2] at p3
  refine ⟨fun hR=>⟨fun h0=>(by rw [hr] at h0; cases h0),fun i hi=>?_⟩⟩
  rw [hr] at hi
  rcases (by simpa using hi:i=k∨i=l) with rfl | rfl
  · refine QjJ (R:=fun v W'=>∃ u,v=.tuple #[u,.nilIface]∧Rd W'∧Kp w W'∧φ u W') ho1 hd1 (Qbr hg1) (by rw [QaS]; obtain ⟨f,args,a1,a2⟩:=h1 w hR hw; exact ⟨f,args,a1,a2.mono fun e W' ⟨u,b1,b2⟩=>⟨_,b1,u,rfl,b2⟩⟩) fun v1 W1 ⟨u,hv,q1⟩=>⟨q1.1,?_⟩
    subst hv
    rw [QaL]
    refine (fA u W1 q1.1 ⟨?_⟩).out q1.1
    refine QkQ (R:=fun v W'=>Ext W1 W'∧ψ v W') ho2 hd2 (Qbr (hg2 _)) (by rw [QaS]; exact h2 _ W1 q1.1) fun v2 W2 q2=>⟨re _ _ q1.1 q2.1,?_⟩
    rw [QaL,hLF]
    exact (kk u v2 W2 (φe _ _ _ q2.1 q1.2.2) q2.2 (re _ _ q1.1 q2.1)).out (re _ _ q1.1 q2.1)
  · refine QkQ (R:=fun v W'=>Ext w W'∧ψ v W') ho2 hd2 (Qbr (hg2 _)) (by rw [QaS]; exact h2 _ w hR) fun v2 W1 q2=>⟨re _ _ hR q2.1,fun h0=>(by rw [hr2] at h0; cases h0),fun j hj=>?_⟩
    rw [hr2] at hj
    obtain rfl:j=k:=by simpa using hj
    refine QjJ (R:=fun v W'=>∃ u,v=.tuple #[u,.nilIface]∧Rd W'∧Kp W1 W'∧φ u W') ho1 hd1 ?_ (by rw [execOp_put (ops:=ops) o1 hs1 _ (some d2) v2 p3,QaS]; obtain ⟨f,args,a1,a2⟩:=h1 W1 (re _ _ hR q2.1) (pe _ _ q2.1 hw); exact ⟨f,args,a1,a2.mono fun e W' ⟨u,b1,b2⟩=>⟨_,b1,u,rfl,b2⟩⟩) fun v1 W2 ⟨u,hv,q1⟩=>⟨q1.1,?_⟩
    · rw [wanted_put o1 _ (some d2) v2 p3]; exact Qbr hg1
    · subst hv
      rw [QaL,QaL]
      refine (fB u v2 W2 q1.1 ?_).out q1.1
      have hm:=QhG (ds:=ds) (N:=N) d2 v2 (pf u++[(d1,.tuple #[u,.nilIface])]) L (fun x hx=>by
        rcases za8.1 hx with h | h
        · exact hpf u x h
        · obtain rfl:=zab.1 h
          exact hd)
      simp only [zao,za6,zax] at hm
      rw [hm,←hLB]
      exact kk u v2 W2 q1.2.2 (ψk _ _ _ (re _ _ hR q2.1) q1.2.1 q2.2) q1.1
end
theorem QbO.ext {b : Nat} {n:Int} {mv:List Int} {v:Value} {W W':World} (h:QbO b n mv v W) (e:Ext W W'):QbO b n mv v W':=by obtain ⟨u,h1,h2⟩:=h; exact ⟨u,h1,h2.ext e⟩
theorem QbO.base {a b:Nat} {n:Int} {mv:List Int} {v:Value} {W:World} (hab:a≤b) (h:QbO b n mv v W):QbO a n mv v W:=by obtain ⟨u,h1,h2⟩:=h; exact ⟨u,h1,zbe hab h2⟩
theorem Qf2 {k : IntKind} {T:TypeId} {b g:Nat} {xs:List Int} {v:Value} {W W':World} (h:OwnN k T b xs v W) (q:Puts W g W') (hn:v.ownBlock≠some g):OwnN k T b xs v W':=h.keep fun k hk=>q.2.2.2.2 k (fun e=>hn (by rw [hk,e]))
theorem Ql1 {k : IntKind} {T T':TypeId} {base g:Nat} {xs:List Int} {v:Value} {W:World} {c:Array Value} (h:OwnN k T base xs v W) (r:W.heap[g]? = some (.cells c T')) (hne:T≠T'):v.ownBlock≠some g:=Wr.nb_typ h r hne
end Pk
end
section
namespace Pk
open Go Go.RowKit
open Rely Auto Own Sha
open Cha
open Ae hiding run_storeQ
open Cn hiding nb_new run_extractT
theorem Qh5 (pl : Nat→Option (Nat×Nat)):∀ (ps:List (Nat×Nat×Value×Array Value)) (pre:List (Array Value)) (rest:Array Value) (off:Nat),(cat pre).size=off→okPl pl off ps→tot ps≤rest.size →
    Instr.fill pl (cat pre++rest) (ps.map fun x=>(x.1,x.2.2.1))=some (cat (pre++ps.map fun x=>x.2.2.2)++rest.extract (tot ps) rest.size)
  | [],pre,rest,off,_,_,ht=>by
    simp [Instr.fill,tot]
  | (i,n,v,p)::r,pre,rest,off,hoff,⟨h1,h2,h3,h4⟩,ht=>by
    subst h2
    have hn:n≤rest.size:=by rw [tot] at ht; omega
    simp only [zah,Instr.fill,h1,h3]
    rw [if_neg (by simp; omega)]
    have hz:(v.cells.zipIdx.foldl (fun cs (x:Value×Nat)=>cs.setIfInBounds (off+x.2) x.1) (cat pre++rest))=cat (pre++[v.cells])++rest.extract n rest.size:=by
      have e1:v.cells.zipIdx=(v.cells.toList.zipIdx 0).toArray:=by
        apply zaj
        simp
      rw [e1,zak,QcA]
      · have e2:rest=rest.extract 0 n++rest.extract n rest.size:=by
          rw [Array.extract_append_extract,Nat.max_eq_right hn]
          simp
        have e3:(cat pre++rest)=cat (pre++([rest.extract 0 n]++[rest.extract n rest.size])):=by
          rw [QaA]
          congr 1
        rw [Nat.add_zero,e3]
        have:=Qdw pre [rest.extract 0 n] [v.cells] [rest.extract n rest.size] off hoff (by show v.cells.size=(rest.extract 0 n).size; simp; omega)
        rw [show (cat [v.cells]).toList=v.cells.toList from rfl] at this
        rw [this,←zao,QaA (pre++[v.cells])]
        rfl
      · rfl
    have key:=Qh5 pl r (pre++[v.cells]) (rest.extract n rest.size) (off+n) (by rw [QaA]; show (cat pre++v.cells).size=_; simp; omega) h4 (by rw [tot] at ht; simp; omega)
    rw [←hz] at key
    rw [zao] at key
    rw [key,tot]
    congr 2
    rw [Array.extract_extract]
    simp
    congr 1
    rw [tot] at ht
    omega
theorem Qic {P : Program} {ρ:Operand→Value} {o:Oper} {w:World} (t:TypeId) (parts:Array (Nat×Operand)) (z:Value) (places:Array (Nat×Nat)) (off:Nat) (pre:List (Array Value)) (rest0:Array Value) (ps:List (Nat×Nat×Value×Array Value)) (rest:List (Array Value))
    (ho:o.op=.build t parts) (hv:(parts.map fun (i,x)=>(i,ρ x)).toList=ps.map fun x=>(x.1,x.2.2.1)) (hoff:(cat pre).size=off) (hp:okPl (fun i=>places[i]?) off ps) (hz0:z.cells=cat pre++rest0) (ht:tot ps≤rest0.size) (hr:rest0.extract (tot ps) rest0.size=cat rest)
    (hz:(zeroValue t).run P w=.ok z w) (hu:P.underlying t=some (.struct (P.fieldsOf t))) (hm:((P.fieldsOf t).mapM fun f=>do pure (f.offset,←sizeOf f.type):Sem (Array (Nat×Nat))).run P w=.ok places w) :
    (execOp ρ o).run P w=.ok (.value (.agg (cat (pre++(ps.map fun x=>x.2.2.2)++rest)))) w:=by
  have:=Qh5 (fun i=>places[i]?) ps pre rest0 off hoff hp ht
  rw [←hz0,hr,←QaA] at this
  rw [←hv] at this
  have hB:(Instr.build t (parts.map fun (i,x)=>(i,ρ x))).run P w=.ok (.agg (cat (pre++(ps.map fun x=>x.2.2.2)++rest))) w:=by
    unfold Instr.build
    rw [zad,hz,zaf,zad,run_underlying hu w,zaf]
    show (Sem.run P _ w)=_
    rw [zad,hm,zaf]
    simp only [this]
    rfl
  unfold execOp
  simp only [ho,zad,hB,zaf,zae]
theorem QgI {W : World} {a b:Nat} {c d:Array Value} {T T':TypeId} (h:W.heap[a]? = some (.cells c T)) (k:W.heap[b]? = some (.cells d T')) (hT:T≠T'):a≠b:=fun e=>by subst e; exact QgW h k hT
theorem nin {x cg cm:Nat} {s0 ts:List Int} {pl:Nat} {ms:List (Int×List Int)} {c:Array Value} {T:TypeId} {W:World} (r:W.heap[x]? = some (.cells c T)) (h:ChSt cg cm s0 ts pl ms W) (hT:T≠82):x∉[cg,cm]:=by
  obtain ⟨B,-,hr⟩:=h.row
  refine Qax (QgI r hr hT) (Qax (fun e=>?_) QaD)
  obtain ⟨es,cl,h1,-⟩:=h.mp
  subst e
  rw [r] at h1
  cases h1
theorem OwE.tail {base : Nat} {e:Ep} {v:Value} {W:World} (h:OwE base [e] v W):∃ (g c:Nat) (tl:Array Value),v=.slice (some ⟨g,0,none⟩) 1 c∧base≤g∧W.heap[g]? = some (.cells (cat [#[.pointer (some ⟨e.gc,0,none⟩)],ints .u8 e.grp,#[.int .i64 e.num],#[.int .i64 e.leaf],tl]) 55):=by
  rcases h.row.2 with ⟨-,e2⟩ | ⟨g,cap,cur,q1,q2,q3,q4,q5,q6,q7⟩
  · cases e2
  · refine ⟨g,cap,(cur.toList.drop 35).toArray,q1,q2,?_⟩
    have h1:cur.toList.take 35=(cat (epP e)).toList:=by
      have:cur.toList.take ([e].length*35)=_:=q7
      simpa using this
    have h2:cur=cat [#[.pointer (some ⟨e.gc,0,none⟩)],ints .u8 e.grp,#[.int .i64 e.num],#[.int .i64 e.leaf],(cur.toList.drop 35).toArray]:=by
      apply zaj
      have h3:=List.take_append_drop 35 cur.toList
      rw [h1] at h3
      refine Eq.trans h3.symm ?_
      unfold epP
      simp [cat]
    rw [←h2]; exact q3
theorem QeN (gb ge ce gc:Nat) (tl:Array Value) (grp:List Int) (hgl:grp.length=32) (w:World) (hgb:w.heap[gb]? = some (.cells (cat [#[.slice (some ⟨ge,0,none⟩) 1 ce],#[.bool false]]) 49)):Calls Tryd.prog 16 #[.pointer (some ⟨gb,0,none⟩)] w (Ret w (.pointer (some ⟨ge,0,none⟩))):=by
  refine enter 24 [(0,.pointer (some ⟨gb,0,none⟩))] Tryd.func16 rfl rfl kj rfl ?_
  refine wp_seq_k fun K2 hK2=>?_
  refine Qad ?_
  refine Qaa (.pointer none) 2 rfl kj kj ?_
  refine Qag ?_
  refine hK2 _ _ ?_
  refine wp_seq_k fun K3 hK3=>?_
  refine wp_seq_k fun K4 hK4=>?_
  refine Qad ?_
  refine Qaa (.pointer (some ⟨gb,0,none⟩)) 3 rfl kj kj ?_
  refine Qaa (.bool false) 4 rfl kj kj ?_
  refine Qaa (.bool false) 5 rfl kj kj ?_
  refine Qaa (.pointer (some ⟨gb,0,none⟩)) 6 rfl kj kj ?_
  refine Qaa (.pointer (some ⟨gb,0,none⟩)) 7 rfl kj kj ?_
  refine Qaa (.pointer (some ⟨gb,0,none⟩)) 8 rfl kj kj ?_
  refine Qaa (.slice (some ⟨ge,0,none⟩) 1 ce) 9 rfl kj (Qae 47 _ gb 0 49 _ (.slice (some ⟨ge,0,none⟩) 1 ce) _ hgb rfl kj kj kj) ?_
  refine Qaa (.int .i64 1) 10 rfl kj kj ?_
  refine Qaa (.bool false) 11 rfl kj kj ?_
  refine Qaa (.bool false) 12 rfl kj kj ?_
  refine Qag ?_
  refine hK4 _ _ ?_
  refine cond_false kj ?_
  refine wp_skip ?_
  refine hK3 _ _ ?_
  refine wp_seq_k fun K5 hK5=>?_
  refine QaU 11 [⟨none,[(0,none)]⟩,⟨none,[(13,some 0)]⟩,⟨none,[(14,some 1)]⟩,⟨none,[(15,some 2)]⟩,⟨none,[(0,none)]⟩,⟨none,[(17,some 4)]⟩,⟨none,[(18,some 5)]⟩,⟨none,[(19,some 6)]⟩,⟨none,[(20,some 7)]⟩,⟨none,[(21,some 8)]⟩,⟨none,[(16,some 3),(22,some 9)]⟩] kj kj fun F hF=>?_
  refine Qar (.pointer (some ⟨gb,0,none⟩)) kj kj (fun W=>by kernel_rfl) ?_
  refine Qar (.pointer (some ⟨gb,0,none⟩)) kj kj (fun W=>by kernel_rfl) ?_
  refine Qar (.pointer (some ⟨gb,0,none⟩)) kj kj (fun W=>by kernel_rfl) ?_
  refine QaI (.slice (some ⟨ge,0,none⟩) 1 ce) kj kj (fun W hR=>(Qae 47 _ gb 0 49 _ (.slice (some ⟨ge,0,none⟩) 1 ce) _ (Qab (Qab hgb (Qan _)) hR) rfl kj kj kj)) ?_
  refine Qar (.pointer (some ⟨gb,0,none⟩)) kj kj (fun W=>by kernel_rfl) ?_
  refine Qar (.pointer (some ⟨gb,0,none⟩)) kj kj (fun W=>by kernel_rfl) ?_
  refine Qar (.pointer (some ⟨gb,0,none⟩)) kj kj (fun W=>by kernel_rfl) ?_
  refine QaI (.slice (some ⟨ge,0,none⟩) 1 ce) kj kj (fun W hR=>(Qae 47 _ gb 0 49 _ (.slice (some ⟨ge,0,none⟩) 1 ce) _ (Qab (Qab hgb (Qan _)) hR) rfl kj kj kj)) ?_
  refine Qar (.int .i64 1) kj kj (fun W=>by kernel_rfl) ?_
  refine Qar (.int .i64 0) kj kj (fun W=>by kernel_rfl) ?_
  refine Qar (.pointer (some ⟨ge,0,none⟩)) kj kj (fun W=>by kernel_rfl) ?_
  refine Qbd (hF _ kj fun W1 e1=>?_)
  simp only [ups,up,Kn.val,za2,za3,za4,za5,zax,za6]
  clear hF
  have x1:Ext w W1:=zbb (zaY w) e1
  refine Qaa (.pointer (some ⟨ge,0,none⟩)) 2 rfl kj kj ?_
  refine Qag ?_
  refine hK5 _ _ ?_
  refine wp_ret ?_
  exact (show bodyPost _ _ _ .ret _ _ from ret1 (.pointer (some ⟨ge,0,none⟩)) rfl (Qa0 kj) ⟨rfl,x1⟩)
end Pk
end
section
namespace Pk
open Go Go.RowKit
open Rely Auto Own Sha
open Cha
open Ae hiding run_storeQ
open Cn hiding nb_new run_extractT
open Wk
set_option maxRecDepth 100000 in
theorem Qmz (gb ge ce gc:Nat) (tl:Array Value) (grp:List Int) (hgl:grp.length=32) (w:World) (hgb:w.heap[gb]? = some (.cells (cat [#[.slice (some ⟨ge,0,none⟩) 1 ce],#[.bool false]]) 49)) (hge:w.heap[ge]? = some (.cells (cat [#[.pointer (some ⟨gc,0,none⟩)],ints .u8 grp,#[.int .i64 0],#[.int .i64 0],tl]) 55)) (gl len cap:Nat) (lp:Array Value) (hgc:w.heap[gc]? = some (.cells #[.slice (some ⟨gl,0,none⟩) len cap] 71)) (hgl_:w.heap[gl]? = some (.cells lp 73)) (cg cm:Nat) (hi:0<len) (hli:lp[0]? = some (.pointer (some ⟨cg,0,none⟩))) (s0:List Int) (hch:ChSt cg cm s0 [] 0 [] w) (tc tq th tr:TypeId) (hc:w.heap[4]? = some (.cells (ints .u64 QaQ) tc)) (hq:w.heap[3]? = some (.cells (ints .u64 Qa6) tq)) (hr4:w.heap[1]? = some (.cells (ints .i64 qQ) tr)) (hh4:w.heap[0]? = some (.cells (ints .u32 qH) th)) (hNc:4∉[cg,cm]) (hNq:3∉[cg,cm]) (hNr:1∉[cg,cm]) (hNh:0∉[cg,cm]) (text fs:List Int) (htl:text.length≤1024) (es:Qdc ((keyV (itV s0 0)).take 32) ((keyV (itV s0 0)).drop 32) (grp++[0,0,0,0]++[0]++[0,0,0,0]) text=fs) (hgrb:Qaj grp) (v:Value) (hst:∀ W,Qah [cg,cm] w W→RdK .u8 W.heap.size text v W) :
  Calls Tryd.prog 8 #[.pointer (some ⟨gb,0,none⟩),v] w (fun x W=>∃ u,x=.returned (.tuple #[.agg (cat [ints .u8 grp,#[.int .i64 0],#[.int .i64 0],#[.int .i64 0],#[u]]),.nilIface])∧Qah [cg,cm] w W∧ChSt cg cm s0 [0] 1 (Qdz [] s0 0 0) W∧OwnN .u8 5 w.heap.size fs u W):=by
 obtain ⟨a_t,c_t,rfl,-⟩:=id (hst _ (Qah.refl _ _))
 have hctxb:Qaj (grp++[0,0,0,0]++[0]++[0,0,0,0]):=fun x hx=>by
  simp only [zao,za8] at hx
  rcases hx with h | h
  ·exact hgrb x h
  ·have:x=0:=by simpa using h
   subst this; exact ⟨by decide,by decide⟩
 have hnl:((keyV (itV s0 0)).drop 32).length=12:=by rw [zaV,QaK]
 refine enter 69 [(0,.pointer (some ⟨gb,0,none⟩)),(1,.slice a_t text.length c_t)] Tryd.func8 rfl rfl kj rfl ?_
 refine wp_seq_k fun K9 hK9=>?_
 refine Qad ?_
 refine Qam (cat [ints .u8 (zam 32 0),#[.int .i64 0],#[.int .i64 0],#[.int .i64 0],#[.slice none 0 0]]) 35 4 rfl kj kj fun g10 W1 l10 e1 r10_1=>?_
 have x1:Ext w W1:=zbb (zaY w) e1
 have b10:w.heap.size≤g10:=qT (zaY w).size l10
 refine Qaa (.nilIface) 5 rfl kj kj ?_
 refine Qag ?_
 refine hK9 _ _ ?_
 refine wp_seq_k fun K11 hK11=>?_
 refine Qad ?_
 refine Qaa (.pointer (some ⟨gb,0,none⟩)) 10 rfl kj kj ?_
 have r1_1:=(Qab hgb e1)
 refine Qat (.pointer (some ⟨ge,0,none⟩)) 16 #[.pointer (some ⟨gb,0,none⟩)] 11 rfl kj kj (QeN gb ge ce gc tl grp hgl _ r1_1) fun W2 e2=>?_
 have x2:Ext w W2:=zbb x1 e2
 refine Qaa (.pointer (some ⟨ge,0,none⟩)) 6 rfl kj kj ?_
 refine Qag ?_
 refine hK11 _ _ ?_
 refine wp_seq_k fun K12 hK12=>?_
 refine wp_seq_k fun K13 hK13=>?_
 refine Qad ?_
 refine Qaa (.pointer (some ⟨ge,0,none⟩)) 12 rfl kj kj ?_
 refine Qaa (.bool false) 13 rfl kj kj ?_
 refine Qag ?_
 refine hK13 _ _ ?_
 refine cond_false kj ?_
 refine wp_skip ?_
 refine hK12 _ _ ?_
 refine wp_seq_k fun K14 hK14=>?_
 refine wp_seq_k fun K15 hK15=>?_
 refine Qad ?_
 refine Qaa (.slice a_t text.length c_t) 16 rfl kj kj ?_
 refine Qaa (.int .i64 ((text.length:Nat):Int)) 17 rfl kj kj ?_
 refine Qaa (.bool false) 18 rfl kj (Qai (u:=.bool (decide (((text.length:Nat):Int)>1024))) kj (congrArg zau (decide_eq_false (by omega)))) ?_
 refine Qag ?_
 refine hK15 _ _ ?_
 refine cond_false kj ?_
 refine wp_skip ?_
 refine hK14 _ _ ?_
 refine wp_seq_k fun K16 hK16=>?_
 have r1_2:=(Qab r1_1 e2)
 have r2_1:=(Qab hge e1)
 have r2_2:=(Qab r2_1 e2)
 have r3_1:=(Qab hgc e1)
 have r3_2:=(Qab r3_1 e2)
 have r4_1:=(Qab hgl_ e1)
 have r4_2:=(Qab r4_1 e2)
 have r5_1:=(Qab hc e1)
 have r5_2:=(Qab r5_1 e2)
 have r6_1:=(Qab hq e1)
 have r6_2:=(Qab r6_1 e2)
 have r7_1:=(Qab hr4 e1)
 have r7_2:=(Qab r7_1 e2)
 have r8_1:=(Qab hh4 e1)
 have r8_2:=(Qab r8_1 e2)
 have r10_2:=(Qab r10_1 e2)
 have hch0:ChSt cg cm s0 [] 0 [] W2:=hch.ext x2
 have hcg0:=hch0.glt
 have hcm0:=hch0.mp.lt
 refine Qdd (fun W=>Qah [cg,cm] W2 W) kj fun Ws eWs=>⟨zbh (Qah.refl _ _) eWs,?_⟩
 refine QaV 0 (.pointer (some ⟨ge,0,none⟩)) 22 rfl rfl kj kj (fun _ _ _ h=>h) (fun W hR=>by kernel_rfl) ?_
 refine QaV 1 (.pointer (some ⟨ge,0,none⟩)) 23 rfl rfl kj kj (fun _ _ _ h=>h) (fun W hR=>by kernel_rfl) ?_
 refine QaV 2 (.pointer (some ⟨ge,0,none⟩)) 24 rfl rfl kj kj (fun _ _ _ h=>h) (fun W hR=>by kernel_rfl) ?_
 refine QaV 3 (.pointer (some ⟨gc,0,none⟩)) 25 rfl rfl kj kj (fun _ _ _ h=>h) (fun W hR=>(Qae 53 _ ge 0 55 _ (.pointer (some ⟨gc,0,none⟩)) _ (zbg hR r2_2 (nin r2_2 hch0 (by decide))) rfl kj (Qaq [] [#[.pointer (some ⟨gc,0,none⟩)]] [ints .u8 (grp),#[.int .i64 0],#[.int .i64 0],tl] 0 kj 0 _ rfl) kj)) ?_
 refine QaV 4 (.pointer (some ⟨ge,0,none⟩)) 26 rfl rfl kj kj (fun _ _ _ h=>h) (fun W hR=>by kernel_rfl) ?_
 refine QaV 5 (.pointer (some ⟨ge,0,none⟩)) 27 rfl rfl kj kj (fun _ _ _ h=>h) (fun W hR=>by kernel_rfl) ?_
 refine QaV 6 (.pointer (some ⟨ge,34,none⟩)) 28 rfl rfl kj kj (fun _ _ _ h=>h) (fun W hR=>by kernel_rfl) ?_
 refine QaV 7 (.int .i64 0) 29 rfl rfl kj kj (fun _ _ _ h=>h) (fun W hR=>(Qae 3 _ ge 34 55 _ (.int .i64 0) _ (zbg hR r2_2 (nin r2_2 hch0 (by decide))) rfl kj (Qaq [#[.pointer (some ⟨gc,0,none⟩)],ints .u8 (grp),#[.int .i64 0]] [#[.int .i64 0]] [tl] 34 (by rw [Qac,Qac,Qac]; simp only [qS,cat,((Qap _ _).trans hgl)]; rfl) 0 _ rfl) kj)) ?_
 refine Qi5 8 12 3 rfl rfl kj kj kj 30 7 rfl rfl kj (fun _=>kj) (fun W=>ChSt cg cm s0 [] 0 [] W) (Qah [cg,cm]) (fun u W=>ChSt cg cm s0 [0] 1 (Qdz [] s0 0 0) W∧QbO W2.heap.size 0 (keyV (itV s0 0)) u W) (fun v W=>∃ g,v=.pointer (some ⟨g,0,none⟩)∧W2.heap.size≤g∧W.heap[g]? = some (.cells (cat [#[.int .i64 0],ints .u8 (zam 32 0),#[.slice none 0 0]]) 60)) (fun u=>[(32,.nilIface),(31,u),(21,.tuple #[u,.nilIface])]) _ _ _ rfl kj (fun u x hx=>by simp only [za7,zal,or_false] at hx; rcases hx with rfl | rfl | rfl; exact (by decide:(32:Nat)≠7); exact (by decide:(31:Nat)≠7); exact (by decide:(21:Nat)≠7)) (by decide) (fun _ _ e h=>h.ext e) (fun _ _ h e=>zbh h e) (fun _ _ _ e h=>⟨h.1.ext e,QbO.ext h.2 e⟩) (fun _ _ _ _ hK h=>by obtain ⟨g,a1,a2,a3⟩:=h; exact ⟨g,a1,a2,zbg hK a3 (Qax (zaW (qL hcg0 a2)) (Qax (zaW (qL hcm0 a2)) QaD))⟩) (fun W hR hP=>⟨19,#[.pointer (some ⟨gc,0,none⟩),.int .i64 0],by kernel_rfl,(show Calls Tryd.prog 19 #[.pointer (some ⟨gc,0,none⟩),.int .i64 0] W _ from QmF gc gl len cap lp W (zbg hR r3_2 (nin r3_2 hch0 (by decide))) (zbg hR r4_2 (nin r4_2 hch0 (by decide))) cg 0 hi hli tc tq (zbg hR r5_2 hNc) (zbg hR r6_2 hNq) hP (by decide) (fun e=>hNc (by simp [←e])) (fun e=>hNq (by simp [←e]))).mono (by rintro e W' ⟨u,rfl,k1,k2,k3⟩; exact ⟨u,rfl,Qah.keeps hR k1 (fun c hc=>.inl hc),k1,k2,QbO.base (Qah.size hR) k3⟩)⟩) (fun L' W hR=>⟨_,_,(by kernel_rfl:_=zaX (Next.value (.pointer (some ⟨W.heap.size,0,none⟩))) (W.alloc (.cells (cat [#[.int .i64 0],ints .u8 (zam 32 0),#[.slice none 0 0]]) 60))),QaZ _ _,_,rfl,Qah.size hR,heap_alloc_new _ _⟩) (hch0.ext eWs) (fun u W hR kk=>by refine QaV 9 (.tuple #[u,.nilIface]) 21 rfl rfl kj kj (fun _ _ _ h=>h) (fun W hR=>by kernel_rfl) ?_; refine QaV 10 (u) 31 rfl rfl kj kj (fun _ _ _ h=>h) (fun W hR=>by kernel_rfl) ?_; refine QaV 11 (.nilIface) 32 rfl rfl kj kj (fun _ _ _ h=>h) (fun W hR=>by kernel_rfl) ?_; exact QeV 12 kj kk) (fun u v2 W hR kk=>by refine QaV 9 (.tuple #[u,.nilIface]) 21 rfl rfl kj kj (fun _ _ _ h=>h) (fun W hR=>by kernel_rfl) ?_; refine QaV 10 (u) 31 rfl rfl kj kj (fun _ _ _ h=>h) (fun W hR=>by kernel_rfl) ?_; refine QaV 11 (.nilIface) 32 rfl rfl kj kj (fun _ _ _ h=>h) (fun W hR=>by kernel_rfl) ?_; exact kk) fun u1 v2 W3 q1 q2 q3=>?_
 obtain ⟨hch2,uo,rfl,hu⟩:=q1
 obtain ⟨g7,rfl,l7,r7_3⟩:=q2
 obtain ⟨a_n,c_n,rfl,-⟩:=id (zbf hu)
 have nb7:=Ql1 hu r7_3 (by decide)
 refine QeV 13 kj (Qfs g7 _ (cat [#[.int .i64 0],ints .u8 ((keyV (itV s0 0)).take 32),#[.slice a_n (((keyV (itV s0 0)).drop 32).length) c_n]]) 60 r7_3 rfl rfl kj (Qal 60 _ _ g7 60 _ _ r7_3 rfl kj kj (isz (n:=34) kj (by rw [Qac,Qac,Qac]; simp only [qS,cat,((Qap _ _).trans (Qbc (QaK _)))]; rfl)) (eqsz (n:=34) (by rw [Qac,Qac,Qac]; simp only [qS,cat,((Qap _ _).trans (qZ (n:=32)))]; rfl) (by rw [Qac,Qac,Qac]; simp only [qS,cat,((Qap _ _).trans (Qbc (QaK _)))]; rfl)) (Qbu _ (by intro a ha; simp only [za7,zal,or_false] at ha; rcases ha with rfl | rfl | rfl; exact (Qa9 _ rfl); exact (Qay _ _); exact (Qa9 _ rfl)))) (fun W' p=>Qah.puts q3 p (.inr l7)) fun W4 p4 r7_4=>?_)
 have hu2:=Qf2 hu p4 nb7
 have hch3:=hch2.keep (p4.2.2.2.2 cg (zaw (qL hcg0 l7))) (p4.2.2.2.2 cm (zaw (qL hcm0 l7)))
 have hK:Qah [cg,cm] W2 W4:=Qah.puts q3 p4 (.inr l7)
 have hKw:Qah [cg,cm] w W4:=Qah.keeps (zbh (Qah.refl _ _) x2) hK (fun c hc=>.inl hc)
 have rk1:=zba p4 (zbg q3 r1_2 (nin r1_2 hch0 (by decide))) (zaw (qL (Qas r1_2) l7))
 have rk2:=zba p4 (zbg q3 r2_2 (nin r2_2 hch0 (by decide))) (zaw (qL (Qas r2_2) l7))
 have rk3:=zba p4 (zbg q3 r3_2 (nin r3_2 hch0 (by decide))) (zaw (qL (Qas r3_2) l7))
 have rk4:=zba p4 (zbg q3 r4_2 (nin r4_2 hch0 (by decide))) (zaw (qL (Qas r4_2) l7))
 have rk5:=zba p4 (zbg q3 r5_2 hNc) (zaw (qL (Qas r5_2) l7))
 have rk6:=zba p4 (zbg q3 r6_2 hNq) (zaw (qL (Qas r6_2) l7))
 have rk7:=zba p4 (zbg q3 r7_2 hNr) (zaw (qL (Qas r7_2) l7))
 have rk8:=zba p4 (zbg q3 r8_2 hNh) (zaw (qL (Qas r8_2) l7))
 have rk10:=zba p4 (zbg q3 r10_2 (nin r10_2 hch0 (by decide))) (zaw (qL (Qas r10_2) l7))
 refine QaV 14 (.nilIface) 8 rfl rfl kj kj (fun _ _ _ h=>h) (fun W hR=>by kernel_rfl) ?_
 refine Qi4 kj ?_
 have nb4:(Value.slice a_n ((keyV (itV s0 0)).drop 32).length c_n).ownBlock≠some g10:=Qcb hu (Qas r10_2)
 refine hK16 _ _ ?_
 refine wp_seq_k fun K18 hK18=>?_
 refine wp_seq_k fun K19 hK19=>?_
 refine Qad ?_
 refine Qaa (.nilIface) 33 rfl kj kj ?_
 refine Qaa (.bool false) 34 rfl kj kj ?_
 refine Qag ?_
 refine hK19 _ _ ?_
 refine cond_false kj ?_
 refine wp_skip ?_
 refine hK18 _ _ ?_
 refine wp_seq_k fun K20 hK20=>?_
 refine Qbh 16 [⟨none,[(6,none)]⟩,⟨none,[(37,some 0)]⟩,⟨none,[(38,some 1)]⟩,⟨none,[(39,some 2)]⟩,⟨none,[(6,none)]⟩,⟨none,[(41,some 4)]⟩,⟨none,[(42,some 5)]⟩,⟨none,[(43,some 6)]⟩,⟨none,[(6,none)]⟩,⟨none,[(45,some 8)]⟩,⟨none,[(46,some 9)]⟩,⟨none,[(47,some 10)]⟩,⟨none,[(7,none)]⟩,⟨none,[(49,some 12)]⟩,⟨none,[(40,some 3),(44,some 7),(48,some 11),(50,some 13)]⟩,⟨none,[]⟩] kj kj fun F hF=>?_
 refine QaF (Qaw _) (.pointer (some ⟨ge,0,none⟩)) kj kj (fun W=>by kernel_rfl) ?_
 refine QaF (Qaw _) (.pointer (some ⟨ge,0,none⟩)) kj kj (fun W=>by kernel_rfl) ?_
 refine QaF (Qaw _) (.pointer (some ⟨ge,1,none⟩)) kj kj (fun W=>by kernel_rfl) ?_
 refine Qbt (Qaw _) (.agg (ints .u8 (grp))) kj kj (fun W hR=>(Qa4 29 _ ge 1 55 _ _ _ (Qab (Qab rk2 (Qan _)) hR) rfl kj (Qaq [#[.pointer (some ⟨gc,0,none⟩)]] [ints .u8 (grp)] [#[.int .i64 0],#[.int .i64 0],tl] 1 kj) kj (isz (n:=32) kj ((Qap _ _).trans hgl)))) ?_
 refine QaF (Qaw _) (.pointer (some ⟨ge,0,none⟩)) kj kj (fun W=>by kernel_rfl) ?_
 refine QaF (Qaw _) (.pointer (some ⟨ge,0,none⟩)) kj kj (fun W=>by kernel_rfl) ?_
 refine QaF (Qaw _) (.pointer (some ⟨ge,33,none⟩)) kj kj (fun W=>by kernel_rfl) ?_
 refine Qbt (Qaw _) (.int .i64 0) kj kj (fun W hR=>(Qae 3 _ ge 33 55 _ (.int .i64 0) _ (Qab (Qab rk2 (Qan _)) hR) rfl kj (Qaq [#[.pointer (some ⟨gc,0,none⟩)],ints .u8 (grp)] [#[.int .i64 0]] [#[.int .i64 0],tl] 33 (by rw [Qac,Qac]; simp only [qS,cat,((Qap _ _).trans hgl)]; rfl) 0 _ rfl) kj)) ?_
 refine QaF (Qaw _) (.pointer (some ⟨ge,0,none⟩)) kj kj (fun W=>by kernel_rfl) ?_
 refine QaF (Qaw _) (.pointer (some ⟨ge,0,none⟩)) kj kj (fun W=>by kernel_rfl) ?_
 refine QaF (Qaw _) (.pointer (some ⟨ge,34,none⟩)) kj kj (fun W=>by kernel_rfl) ?_
 refine Qbt (Qaw _) (.int .i64 0) kj kj (fun W hR=>(Qae 3 _ ge 34 55 _ (.int .i64 0) _ (Qab (Qab rk2 (Qan _)) hR) rfl kj (Qaq [#[.pointer (some ⟨gc,0,none⟩)],ints .u8 (grp),#[.int .i64 0]] [#[.int .i64 0]] [tl] 34 (by rw [Qac,Qac,Qac]; simp only [qS,cat,((Qap _ _).trans hgl)]; rfl) 0 _ rfl) kj)) ?_
 refine QaF (Qaw _) (.pointer (some ⟨g7,0,none⟩)) kj kj (fun W=>by kernel_rfl) ?_
 refine Qbt (Qaw _) (.int .i64 0) kj kj (fun W hR=>(Qae 3 _ g7 0 60 _ (.int .i64 0) _ (Qab (Qab r7_4 (Qan _)) hR) rfl kj (Qaq [] [#[.int .i64 0]] [ints .u8 ((keyV (itV s0 0)).take 32),#[.slice a_n (((keyV (itV s0 0)).drop 32).length) c_n]] 0 kj 0 _ rfl) kj)) ?_
 refine QaF (Qaw _) (.agg (cat [ints .u8 (grp),#[.int .i64 0],#[.int .i64 0],#[.int .i64 0],#[.slice none 0 0]])) kj kj (fun W=>(Qic 35 _ (.agg (cat [ints .u8 (zam 32 0),#[.int .i64 0],#[.int .i64 0],#[.int .i64 0],#[.slice none 0 0]])) #[(0,32),(32,1),(33,1),(34,1),(35,1)] 0 [] (cat [ints .u8 (zam 32 0),#[.int .i64 0],#[.int .i64 0],#[.int .i64 0],#[.slice none 0 0]]) [(0,32,.agg (ints .u8 (grp)),ints .u8 (grp)),(1,1,.int .i64 0,#[.int .i64 0]),(2,1,.int .i64 0,#[.int .i64 0]),(3,1,.int .i64 0,#[.int .i64 0])] [#[.slice none 0 0]] rfl kj rfl ⟨kj,rfl,((Qap _ _).trans hgl),kj,rfl,kj,kj,rfl,kj,kj,rfl,kj,trivial⟩ kj (Nat.le_of_ble_eq_true kj) kj kj kj kj)) ?_
 refine QmX (Qaw _) (cat [ints .u8 (zam 32 0),#[.int .i64 0],#[.int .i64 0],#[.int .i64 0],#[.slice none 0 0]]) 35 (NewP.stable _ _ _) kj kj (fun W=>by kernel_rfl) ?_
 refine Qdj (hF _ fun W5 e5=>?_)
 simp only [zax,za6,za2,za3,za4,za5,finE,up]
 intro vv21 hv21
 clear hF
 have x5:ExtB g10 W4 W5:=ExtB.ext (zbc g10 W4) e5
 obtain ⟨g21,rfl,l21,r21_5⟩:=hv21
 have b21:W4.heap.size≤g21:=qT (zbc g10 W4).2.2.2.1 l21
 refine Qak g21 _ (cat [ints .u8 (grp),#[.int .i64 0],#[.int .i64 0],#[.int .i64 0],#[.slice none 0 0]]) 35 r21_5 rfl kj (Qal 35 _ _ g21 35 _ _ r21_5 rfl kj kj (isz (n:=36) kj (by rw [Qac,Qac,Qac,Qac,Qac]; simp only [qS,cat,((Qap _ _).trans hgl)]; rfl)) (eqsz (n:=36) (by rw [Qac,Qac,Qac,Qac,Qac]; simp only [qS,cat,((Qap _ _).trans (qZ (n:=32)))]; rfl) (by rw [Qac,Qac,Qac,Qac,Qac]; simp only [qS,cat,((Qap _ _).trans hgl)]; rfl)) (Qbu _ (by intro a ha; simp only [za7,zal,or_false] at ha; rcases ha with rfl | rfl | rfl | rfl | rfl; exact (Qay _ _); exact (Qa9 _ rfl); exact (Qa9 _ rfl); exact (Qa9 _ rfl); exact (Qa9 _ rfl)))) fun W6 p6 r21_6=>?_
 have x6:ExtB g10 W4 W6:=ExtB.putsN x5 p6 b21
 refine Qag ?_
 refine hK20 _ _ ?_
 refine wp_seq_k fun K22 hK22=>?_
 refine Wk.any_regionEZ 8 [⟨none,[(7,none)]⟩,⟨none,[(53,some 0)]⟩,⟨none,[(7,none)]⟩,⟨none,[(55,some 2)]⟩,⟨none,[(9,none)]⟩,⟨none,[(57,some 4)]⟩,⟨none,[(1,none)]⟩,⟨none,[(54,some 1),(56,some 3),(58,some 5),(59,some 6)]⟩] kj kj fun F hF=>?_
 refine QaF (Qaw _) (.pointer (some ⟨g7,1,none⟩)) kj kj (fun W=>by kernel_rfl) ?_
 have r17_5:=(Qab r7_4 e5)
 have r17_6:=(zba p6 r17_5 (Qaf r7_4 l21))
 refine Qbt (Qaw _) (.agg (ints .u8 ((keyV (itV s0 0)).take 32))) kj kj (fun W hR=>(Qa4 58 _ g7 1 60 _ _ _ (Qab (Qab r17_6 (Qan _)) hR) rfl kj (Qaq [#[.int .i64 0]] [ints .u8 ((keyV (itV s0 0)).take 32)] [#[.slice a_n (((keyV (itV s0 0)).drop 32).length) c_n]] 1 kj) kj (isz (n:=32) kj ((Qap _ _).trans (Qbc (QaK _)))))) ?_
 refine QaF (Qaw _) (.pointer (some ⟨g7,33,none⟩)) kj kj (fun W=>by kernel_rfl) ?_
 refine Qbt (Qaw _) (.slice a_n (((keyV (itV s0 0)).drop 32).length) c_n) kj kj (fun W hR=>(Qae 33 _ g7 33 60 _ (.slice a_n (((keyV (itV s0 0)).drop 32).length) c_n) _ (Qab (Qab r17_6 (Qan _)) hR) rfl kj (Qaq [#[.int .i64 0],ints .u8 ((keyV (itV s0 0)).take 32)] [#[.slice a_n (((keyV (itV s0 0)).drop 32).length) c_n]] [] 33 (by rw [Qac,Qac]; simp only [qS,cat,((Qap _ _).trans (Qbc (QaK _)))]; rfl) 0 _ rfl) kj)) ?_
 refine Qbt (Qaw _) (.agg (cat [ints .u8 (grp),#[.int .i64 0],#[.int .i64 0],#[.int .i64 0],#[.slice none 0 0]])) kj kj (fun W hR=>(Qao 35 _ g21 35 _ _ (Qab (Qab r21_6 (Qan _)) hR) rfl kj kj (isz (n:=36) kj (by rw [Qac,Qac,Qac,Qac,Qac]; simp only [qS,cat,((Qap _ _).trans hgl)]; rfl)))) ?_
 refine QeM (Qaw _) (OwnN .u8 5 W6.heap.size (grp++[0,0,0,0]++[0]++[0,0,0,0])) (OwnN.stable _ _ _ _) 21 #[.agg (cat [ints .u8 (grp),#[.int .i64 0],#[.int .i64 0],#[.int .i64 0],#[.slice none 0 0]])] kj kj (fun W=>by kernel_rfl) (fun W hR=>((Qgv grp hgl _ _ _ _).mono fun e W2 hg=>by obtain ⟨v2,e1,e2,e3⟩:=hg; exact ⟨v2,e1,e2,zbe (zaZ (Qan _) hR).size e3⟩)) ?_
 refine QaF (Qaw _) (.slice a_t text.length c_t) kj kj (fun W=>by kernel_rfl) ?_
 have f24_5:=(hu2.ext e5)
 have f25_6:=(f24_5.puts p6 (nb_new hu2 l21))
 have r8_5:=(Qab rk8 e5)
 have r8_6:=(zba p6 r8_5 (Qaf rk8 l21))
 have r7_5:=(Qab rk7 e5)
 have r7_6:=(zba p6 r7_5 (Qaf rk7 l21))
 refine Qh7 (Qaw _) (MixR W6.heap.size fs) (QeG _ _) 20 (fun ρ W hR hX=>?_) ?_
 ·skip
  have e54_:ρ 54=.agg (ints .u8 ((keyV (itV s0 0)).take 32)):=hX.1
  have e56_:ρ 56=.slice a_n (((keyV (itV s0 0)).drop 32).length) c_n:=hX.2.1
  have q58_:(OwnN .u8 5 W6.heap.size (grp++[0,0,0,0]++[0]++[0,0,0,0])) (ρ 58) W:=hX.2.2.1
  obtain ⟨ar58,cr58,e58_,-⟩:=id (zbf q58_)
  have rd58_:=zbf q58_
  rw [e58_] at rd58_
  have e59_:ρ 59=.slice a_t text.length c_t:=hX.2.2.2.1
  refine ⟨#[.agg (ints .u8 ((keyV (itV s0 0)).take 32)),.slice a_n (((keyV (itV s0 0)).drop 32).length) c_n,.slice ar58 ((grp++[0,0,0,0]++[0]++[0,0,0,0]).length) cr58,.slice a_t text.length c_t],Eq.trans (b:=zaX (Next.enter 20 #[ρ 54,ρ 56,ρ 58,ρ 59]) W) kj (by rw [e54_,e56_,e58_,e59_]),?_⟩
  exact ((Qnd ((keyV (itV s0 0)).take 32) ((keyV (itV s0 0)).drop 32) (grp++[0,0,0,0]++[0]++[0,0,0,0]) text _ _ _ _ _ _ th tr W (Qab (Qab r8_6 (Qan _)) hR) (Qab (Qab r7_6 (Qan _)) hR) (Qbc (QaK _)) (RdK.ext (zbf f25_6) (zaZ (Qan _) hR)) rd58_ (RdK.ext (hst _ (Qah.but hKw x6 (.inr b10))) (zaZ (Qan _) hR)) hctxb hnl (by simp [hgl]) (by omega)).mono fun e W2 hg=>by obtain ⟨v2,e1,e2,u,e3,e4⟩:=hg; rw [es] at e4; exact ⟨v2,e1,e2,u,e3,e4.base (zaZ (Qan _) hR).size⟩)
 refine Qdj (hF _ fun W7 e7=>?_)
 simp only [zax,za6,za2,za3,za4,za5,finE,up]
 intro vv23 hv23 vv26 hv26
 clear hF
 have x7:ExtB g10 W4 W7:=ExtB.ext x6 e7
 obtain ⟨a27_,c27_,rfl,-⟩:=id (zbf hv23)
 obtain ⟨uu28,rfl,huu28⟩:=hv26
 obtain ⟨au28,cu28,rfl,-⟩:=id (zbf huu28)
 refine (show Wk.WZ _ _ _ 6 #[true,true,true,true,true,true,true,true,false,false,false,false,false,false] _ _ from ?_)
 refine Wk.wz_val 8 (.tuple #[.slice au28 ((fs).length) cu28,.nilIface]) 52 rfl rfl kj kj (fun _ _ _ h=>h) (fun W=>by kernel_rfl) ?_
 refine Wk.wz_val 9 (.slice au28 ((fs).length) cu28) 61 rfl rfl kj kj (fun _ _ _ h=>h) (fun W=>by kernel_rfl) ?_
 refine Wk.wz_val 10 (.nilIface) 62 rfl rfl kj kj (fun _ _ _ h=>h) (fun W=>by kernel_rfl) ?_
 refine Wk.wz_val 11 (.pointer (some ⟨g21,35,none⟩)) 63 rfl rfl kj kj (fun _ _ _ h=>h) (fun W=>by kernel_rfl) ?_
 have r21_7:=(Qab r21_6 e7)
 refine Wk.wz_store 12 g21 _ (cat [ints .u8 (grp),#[.int .i64 0],#[.int .i64 0],#[.int .i64 0],#[.slice au28 ((fs).length) cu28]]) 35 r21_7 kj rfl rfl kj (run_storeQ 33 _ _ g21 35 35 [ints .u8 (grp),#[.int .i64 0],#[.int .i64 0],#[.int .i64 0]] [] _ (.slice au28 ((fs).length) cu28) r21_7 rfl kj kj kj (by rw [Qac,Qac,Qac,Qac]; simp only [qS,cat,((Qap _ _).trans hgl)]; rfl) rfl rfl) fun W8 p8 r21_8=>?_
 have x8:ExtB g10 W4 W8:=ExtB.putsN x7 p8 b21
 refine Wk.wz_val 13 (.nilIface) 8 rfl rfl kj kj (fun _ _ _ h=>h) (fun W=>by kernel_rfl) ?_
 refine Wk.wz_nil kj ?_
 refine hK22 _ _ ?_
 refine wp_seq_k fun K29 hK29=>?_
 refine wp_seq_k fun K30 hK30=>?_
 refine Qad ?_
 refine Qaa (.nilIface) 64 rfl kj kj ?_
 refine Qaa (.bool false) 65 rfl kj kj ?_
 refine Qag ?_
 refine hK30 _ _ ?_
 refine cond_false kj ?_
 refine wp_skip ?_
 refine hK29 _ _ ?_
 refine wp_seq_k fun K31 hK31=>?_
 refine Qad ?_
 refine Qaa (.agg (cat [ints .u8 (grp),#[.int .i64 0],#[.int .i64 0],#[.int .i64 0],#[.slice au28 ((fs).length) cu28]])) 68 rfl kj (Qao 35 _ g21 35 _ _ r21_8 rfl kj kj (isz (n:=36) kj (by rw [Qac,Qac,Qac,Qac,Qac]; simp only [qS,cat,((Qap _ _).trans hgl)]; rfl))) ?_
 have r10_5:=(Qab rk10 e5)
 have r10_6:=(zba p6 r10_5 (Qaf rk10 l21))
 have r10_7:=(Qab r10_6 e7)
 have r10_8:=(zba p8 r10_7 (Qaf rk10 l21))
 refine Qak g10 _ (cat [ints .u8 (grp),#[.int .i64 0],#[.int .i64 0],#[.int .i64 0],#[.slice au28 ((fs).length) cu28]]) 35 r10_8 rfl kj (Qal 35 _ _ g10 35 _ _ r10_8 rfl kj kj (isz (n:=36) kj (by rw [Qac,Qac,Qac,Qac,Qac]; simp only [qS,cat,((Qap _ _).trans hgl)]; rfl)) (eqsz (n:=36) (by rw [Qac,Qac,Qac,Qac,Qac]; simp only [qS,cat,((Qap _ _).trans (qZ (n:=32)))]; rfl) (by rw [Qac,Qac,Qac,Qac,Qac]; simp only [qS,cat,((Qap _ _).trans hgl)]; rfl)) (Qbu _ (by intro a ha; simp only [za7,zal,or_false] at ha; rcases ha with rfl | rfl | rfl | rfl | rfl; exact (Qay _ _); exact (Qa9 _ rfl); exact (Qa9 _ rfl); exact (Qa9 _ rfl); exact (Qa9 _ rfl)))) fun W9 p9 r10_9=>?_
 have x9:ExtB g10 W4 W9:=ExtB.puts x8 p9
 refine Qaa (.nilIface) 5 rfl kj kj ?_
 refine Qag ?_
 refine hK31 _ _ ?_
 refine wp_ret ?_
 have f32_8:=(huu28.puts p8 (Qcb huu28 (Qas r21_6)))
 have f33_9:=(f32_8.puts p9 (Qcb huu28 (Qas r10_6)))
 exact (show bodyPost _ _ _ .ret _ _ from ret2 (.agg (cat [ints .u8 (grp),#[.int .i64 0],#[.int .i64 0],#[.int .i64 0],#[.slice au28 ((fs).length) cu28]])) (.nilIface) rfl (QaJ g10 35 _ r10_9 kj kj (isz (n:=36) kj (by rw [Qac,Qac,Qac,Qac,Qac]; simp only [qS,cat,((Qap _ _).trans hgl)]; rfl))) (Qa0 kj) ⟨_,rfl,Qah.but hKw x9 (.inr b10),hch3.keep (x9.2.2.2.2 cg hch3.glt (zaw (qL hch.glt b10))) (x9.2.2.2.2 cm hch3.mp.lt (zaw (qL hch.mp.lt b10))),zbe (qT hKw.size x6.2.2.2.1) f33_9⟩)
end Pk
end
section
namespace Pk
open Go Go.RowKit
open Rely Auto Own Sha
open Cha
open Ae hiding run_storeQ
open Cn hiding nb_new run_extractT
theorem of_1 (gb ge ce gc:Nat) (tl:Array Value) (grp:List Int) (hgl:grp.length=32) (w:World) (hgb:w.heap[gb]? = some (.cells (cat [#[.slice (some ⟨ge,0,none⟩) 1 ce],#[.bool false]]) 49)) (hge:w.heap[ge]? = some (.cells (cat [#[.pointer (some ⟨gc,0,none⟩)],ints .u8 grp,#[.int .i64 0],#[.int .i64 1],tl]) 55)) (a_s:Option Addr) (n_s c_s:Nat):Calls Tryd.prog 23 #[.pointer (some ⟨gb,0,none⟩),.agg (cat [ints .u8 grp,#[.int .i64 0],#[.int .i64 0],#[.int .i64 0],#[.slice a_s n_s c_s]])] w (Ret w (.pointer (some ⟨ge,0,none⟩))):=by
  refine enter 39 [(0,.pointer (some ⟨gb,0,none⟩)),(1,.agg (cat [ints .u8 (grp),#[.int .i64 0],#[.int .i64 0],#[.int .i64 0],#[.slice a_s n_s c_s]]))] Tryd.func23 rfl rfl kj rfl ?_
  refine wp_seq_k fun K3 hK3=>?_
  refine Qad ?_
  refine Qam (cat [ints .u8 (grp),#[.int .i64 0],#[.int .i64 0],#[.int .i64 0],#[.slice a_s n_s c_s]]) 35 3 rfl kj kj fun g4 W1 l4 e1 r4_1=>?_
  have x1:Ext w W1:=zbb (zaY w) e1
  have b4:w.heap.size≤g4:=qT (zaY w).size l4
  refine Qaa (.pointer none) 4 rfl kj kj ?_
  refine Qag ?_
  refine hK3 _ _ ?_
  refine wp_seq_k fun K5 hK5=>?_
  refine wp_seq_k fun K6 hK6=>?_
  refine Qad ?_
  refine Qaa (.pointer (some ⟨gb,0,none⟩)) 7 rfl kj kj ?_
  refine Qaa (.pointer (some ⟨gb,0,none⟩)) 8 rfl kj kj ?_
  refine Qaa (.pointer (some ⟨gb,0,none⟩)) 9 rfl kj kj ?_
  have r1_1:=(Qab hgb e1)
  refine Qaa (.slice (some ⟨ge,0,none⟩) 1 ce) 10 rfl kj (Qae 47 _ gb 0 49 _ (.slice (some ⟨ge,0,none⟩) 1 ce) _ r1_1 rfl kj kj kj) ?_
  refine Qaa (.int .i64 1) 11 rfl kj kj ?_
  refine Qaa (.int .i64 0) 12 rfl kj kj ?_
  refine Qag ?_
  refine hK6 _ _ ?_
  refine wp_block ?_
  refine wp_loop_rounds 1 ?_
  show Code.wp _ _ (Exit.then (Code.rounds _ _ _ 0) _) _ _
  refine wp_seq_k fun K7 hK7=>?_
  refine Qad ?_
  refine Qaa (.bool true) 13 rfl kj kj ?_
  refine Qag ?_
  refine hK7 _ _ ?_
  refine wp_seq_k fun K8 hK8=>?_
  refine cond_true kj ?_
  refine wp_skip ?_
  refine hK8 _ _ ?_
  refine wp_seq_k fun K9 hK9=>?_
  refine wp_block ?_
  refine wp_seq_k fun K10 hK10=>?_
  refine Qad ?_
  refine Qaa (.int .i64 0) 14 rfl kj kj ?_
  refine Qaa (.int .i64 0) 5 rfl kj kj ?_
  refine Qag ?_
  refine hK10 _ _ ?_
  refine wp_seq_k fun K11 hK11=>?_
  refine Qad ?_
  refine Qaa (.pointer (some ⟨gb,0,none⟩)) 15 rfl kj kj ?_
  refine Qaa (.pointer (some ⟨gb,0,none⟩)) 16 rfl kj kj ?_
  refine Qaa (.pointer (some ⟨gb,0,none⟩)) 17 rfl kj kj ?_
  refine Qaa (.slice (some ⟨ge,0,none⟩) 1 ce) 18 rfl kj (Qae 47 _ gb 0 49 _ (.slice (some ⟨ge,0,none⟩) 1 ce) _ r1_1 rfl kj kj kj) ?_
  refine Qaa (.int .i64 0) 19 rfl kj kj ?_
  refine Qaa (.pointer (some ⟨ge,0,none⟩)) 20 rfl kj kj ?_
  refine Qaa (.pointer (some ⟨ge,0,none⟩)) 6 rfl kj kj ?_
  refine Qag ?_
  refine hK11 _ _ ?_
  refine wp_seq_k fun K12 hK12=>?_
  refine QaU 16 [⟨none,[(6,none)]⟩,⟨none,[(21,some 0)]⟩,⟨none,[(22,some 1)]⟩,⟨none,[(23,some 2)]⟩,⟨none,[(3,none)]⟩,⟨none,[(25,some 4)]⟩,⟨none,[(24,some 3),(26,some 5)]⟩,⟨none,[(27,some 6)]⟩,⟨some (28,true),[(6,none),(28,some 7)]⟩,⟨some (28,true),[(29,some 8),(28,some 7)]⟩,⟨some (28,true),[(30,some 9),(28,some 7)]⟩,⟨some (28,true),[(31,some 10),(28,some 7)]⟩,⟨some (28,true),[(3,none),(28,some 7)]⟩,⟨some (28,true),[(33,some 12),(28,some 7)]⟩,⟨some (28,true),[(32,some 11),(34,some 13),(28,some 7)]⟩,⟨none,[(28,some 7),(35,some 14)]⟩] kj kj fun F hF=>?_
  refine Qar (.pointer (some ⟨ge,0,none⟩)) kj kj (fun W=>by kernel_rfl) ?_
  refine Qar (.pointer (some ⟨ge,0,none⟩)) kj kj (fun W=>by kernel_rfl) ?_
  refine Qar (.pointer (some ⟨ge,33,none⟩)) kj kj (fun W=>by kernel_rfl) ?_
  have r2_1:=(Qab hge e1)
  refine QaI (.int .i64 0) kj kj (fun W hR=>(Qae 3 _ ge 33 55 _ (.int .i64 0) _ (Qab (Qab r2_1 (Qan _)) hR) rfl kj (Qaq [#[.pointer (some ⟨gc,0,none⟩)],ints .u8 (grp)] [#[.int .i64 0]] [#[.int .i64 1],tl] 33 (by rw [Qac,Qac]; simp only [qS,cat,((Qap _ _).trans hgl)]; rfl) 0 _ rfl) kj)) ?_
  refine Qar (.pointer (some ⟨g4,32,none⟩)) kj kj (fun W=>by kernel_rfl) ?_
  refine QaI (.int .i64 0) kj kj (fun W hR=>(Qae 3 _ g4 32 35 _ (.int .i64 0) _ (Qab (Qab r4_1 (Qan _)) hR) rfl kj (Qaq [ints .u8 (grp)] [#[.int .i64 0]] [#[.int .i64 0],#[.int .i64 0],#[.slice a_s n_s c_s]] 32 ((Qap _ _).trans hgl) 0 _ rfl) kj)) ?_
  refine Qar (.bool true) kj kj (fun W=>by kernel_rfl) ?_
  refine Qar (.bool true) kj kj (fun W=>by kernel_rfl) ?_
  refine Qar (.pointer (some ⟨ge,0,none⟩)) kj kj (fun W=>by kernel_rfl) ?_
  refine Qar (.pointer (some ⟨ge,0,none⟩)) kj kj (fun W=>by kernel_rfl) ?_
  refine Qar (.pointer (some ⟨ge,1,none⟩)) kj kj (fun W=>by kernel_rfl) ?_
  refine QaI (.agg (ints .u8 (grp))) kj kj (fun W hR=>(Qa4 29 _ ge 1 55 _ _ _ (Qab (Qab r2_1 (Qan _)) hR) rfl kj (Qaq [#[.pointer (some ⟨gc,0,none⟩)]] [ints .u8 (grp)] [#[.int .i64 0],#[.int .i64 1],tl] 1 kj) kj (isz (n:=32) kj ((Qap _ _).trans hgl)))) ?_
  refine Qar (.pointer (some ⟨g4,0,none⟩)) kj kj (fun W=>by kernel_rfl) ?_
  refine QaI (.agg (ints .u8 (grp))) kj kj (fun W hR=>(Qa4 29 _ g4 0 35 _ _ _ (Qab (Qab r4_1 (Qan _)) hR) rfl kj (Qaq [] [ints .u8 (grp)] [#[.int .i64 0],#[.int .i64 0],#[.int .i64 0],#[.slice a_s n_s c_s]] 0 kj) kj (isz (n:=32) kj ((Qap _ _).trans hgl)))) ?_
  refine Qar (.bool true) kj kj (fun W=>(Qg8 29 _ _ _ _ _ (.bool true) rfl kj kj kj (QjC 29 (e:=5) (k:=.u8) (grp) (grp) (decide_eq_true rfl) hgl hgl kj kj kj _))) ?_
  refine Qar (.bool true) kj kj (fun W=>by kernel_rfl) ?_
  refine Qbd (hF _ kj fun W2 e2=>?_)
  simp only [ups,up,Kn.val,za2,za3,za4,za5,zax,za6]
  clear hF
  have x2:Ext w W2:=zbb x1 e2
  refine Qag ?_
  refine hK12 _ _ ?_
  refine cond_true kj ?_
  refine wp_seq_k fun K13 hK13=>?_
  refine Qad ?_
  refine Qaa (.pointer (some ⟨ge,0,none⟩)) 37 rfl kj kj ?_
  refine Qaa (.pointer (some ⟨ge,0,none⟩)) 4 rfl kj kj ?_
  refine Qag ?_
  refine hK13 _ _ ?_
  refine wp_ret ?_
  exact (show bodyPost _ _ _ .ret _ _ from ret1 (.pointer (some ⟨ge,0,none⟩)) rfl (Qa0 kj) ⟨rfl,x2⟩)
theorem QeB {xs ys:List Int} (h:xs.length+ys.length≤65536):Wr.rawS (some xs) ys=some (xs++ys):=by
  unfold Wr.rawS
  simp [h]
theorem Qge (n : Int):∀ (k:Nat) (xs:List Int),xs.length+k≤65536→∃ ys,ys.length=xs.length+k∧Wr.numR n k (some xs)=some ys
  | 0,xs,_=>⟨xs,rfl,rfl⟩
  | k+1,xs,h=>by
    obtain ⟨ys,h1,h2⟩:=Qge n k (xs++[Wr.byV n k]) (by simp; omega)
    refine ⟨ys,by rw [h1]; simp; omega,?_⟩
    show Wr.numR n k (Wr.rawS (some xs) [Wr.byV n k])=_
    rw [QeB (by simp; omega)]; exact h2
theorem QdC {n : Int} {k:Nat} {xs:List Int} (ho:Wr.okN n k=true) (h:xs.length+k≤65536):∃ ys,ys.length=xs.length+k∧Wr.numS (some xs) n k=some ys:=by
  unfold Wr.numS Wr.mustS
  rw [ho]
  exact Qge n k xs h
theorem Qlw {n : Nat} (h:n≤1040):Wr.okN ((n:Nat):Int) 2=true:=by
  unfold Wr.okN
  have h1:((n:Nat):Int).fdiv (2^(8*2))=0:=by
    rw [Int.fdiv_eq_ediv_of_nonneg _ (by decide)]
    exact Int.ediv_eq_zero_of_lt (by omega) (by show ((n:Nat):Int)<65536; omega)
  rw [h1]
  simp
theorem Qfh (grp fs:List Int) (hg:grp.length=32) (hf:fs.length≤1040):∃ xs,Wr.packS (some []) grp 0 0 0 fs=some xs:=by
  unfold Wr.packS Wr.leafS Wr.bytS
  rw [QeB (by simp [hg])]
  obtain ⟨y1,l1,e1⟩:=QdC (n:=0) (k:=4) (xs:=[]++grp) (by decide) (by simp [hg])
  rw [e1]
  obtain ⟨y2,l2,e2⟩:=QdC (n:=0) (k:=1) (xs:=y1) (by decide) (by rw [l1]; simp [hg])
  rw [show Wr.mustS (some y1) (decide ((0:Int)<32))=some y1 from rfl,e2]
  obtain ⟨y3,l3,e3⟩:=QdC (n:=0) (k:=4) (xs:=y2) (by decide) (by rw [l2,l1]; simp [hg])
  rw [e3]
  obtain ⟨y4,l4,e4⟩:=QdC (n:=((fs.length:Nat):Int)) (k:=2) (xs:=y3) (Qlw hf) (by rw [l3,l2,l1]; simp [hg])
  rw [e4]
  exact ⟨_,QeB (by rw [l4,l3,l2,l1]; simp [hg]; omega)⟩
end Pk
end
section
namespace Pk
open Go Go.RowKit
open Rely Auto Own Sha
open Cha
open Ae hiding run_storeQ
open Cn hiding nb_new run_extractT
open Wk
open Ae in
theorem QfP (key nonce ctx text:List Int):(Qdc key nonce ctx text).take ((Qdc key nonce ctx text).length-16)=mixV (QaT key nonce) 1 text:=by
  rw [QcG]; unfold Qdc
  rw [List.take_append_of_le_length (by rw [QbM]; omega),List.take_of_length_le (by rw [QbM]; omega)]
theorem QiF (key nonce ctx text:List Int):(Qdc key nonce ctx text).drop ((Qdc key nonce ctx text).length-16)=Qdl key nonce ctx (mixV (QaT key nonce) 1 text):=by
  rw [QcG]; unfold Qdc
  rw [List.drop_append_of_le_length (by rw [QbM]; omega),List.drop_of_length_le (by rw [QbM]; omega),zax]
theorem QjO (key nonce ctx text:List Int) (v v2 v3:Value) (B B2 B3:Nat) (th tq:TypeId) (w:World) (hh:w.heap[0]? = some (.cells (ints .u32 qH) th)) (hq:w.heap[1]? = some (.cells (ints .i64 qQ) tq)) (hkl:key.length=32) (hn:RdK .u8 B nonce v w) (hc:RdK .u8 B2 ctx v2 w) (ht:RdK .u8 B3 (Qdc key nonce ctx text) v3 w) (hcb:Qaj ctx) (htb:Qaj text) (h:nonce.length=12) (hcl:ctx.length≤1048576) (hxl:text.length≤1048576) :
    Calls Tryd.prog 25 #[.agg (ints .u8 key),v,v2,v3] w (QbD w (MixR w.heap.size text)):=by
  have h1:=Qnf key nonce ctx (Qdc key nonce ctx text) v v2 v3 B B2 B3 th tq w hh hq hkl hn hc ht hcb (Qd2 _ _ _ _) h (by omega) (by rw [QcG]; omega) (by rw [QcG]; omega) (by rw [QfP,QiF])
  rw [QfP,Ql8 _ _ _ htb] at h1
  exact h1
theorem QmC (key nonce ctx text fs:List Int) (es:Qdc key nonce ctx text=fs) (v v2 v3:Value) (B B2 B3:Nat) (th tq:TypeId) (w:World) (hh:w.heap[0]? = some (.cells (ints .u32 qH) th)) (hq:w.heap[1]? = some (.cells (ints .i64 qQ) tq)) (hkl:key.length=32) (hn:RdK .u8 B nonce v w) (hc:RdK .u8 B2 ctx v2 w) (ht:RdK .u8 B3 fs v3 w) (hcb:Qaj ctx) (htb:Qaj text) (h:nonce.length=12) (hcl:ctx.length≤1048576) (hxl:text.length≤1048576) :
    Calls Tryd.prog 25 #[.agg (ints .u8 key),v,v2,v3] w (QbD w (MixR w.heap.size text)):=by
  subst es
  exact QjO key nonce ctx text v v2 v3 B B2 B3 th tq w hh hq hkl hn hc ht hcb htb h hcl hxl
theorem QiW {k : IntKind} {T:TypeId} {b cg cm:Nat} {xs:List Int} {v:Value} {W W':World} (h:OwnN k T b xs v W) (q:Qah [cg,cm] W W') (h1:v.ownBlock≠some cg) (h2:v.ownBlock≠some cm):OwnN k T b xs v W' :=
  h.keep fun g hg=>q.block g (h.lt hg) (Qax (fun e=>h1 (by rw [hg,e])) (Qax (fun e=>h2 (by rw [hg,e])) QaD))
set_option maxRecDepth 100000 in
theorem QmB (gb ge ce gc:Nat) (tl:Array Value) (grp:List Int) (hgl:grp.length=32) (w:World) (hgb:w.heap[gb]? = some (.cells (cat [#[.slice (some ⟨ge,0,none⟩) 1 ce],#[.bool false]]) 49)) (hge:w.heap[ge]? = some (.cells (cat [#[.pointer (some ⟨gc,0,none⟩)],ints .u8 grp,#[.int .i64 0],#[.int .i64 1],tl]) 55)) (gl len cap:Nat) (lp:Array Value) (hgc:w.heap[gc]? = some (.cells #[.slice (some ⟨gl,0,none⟩) len cap] 71)) (hgl_:w.heap[gl]? = some (.cells lp 73)) (cg cm:Nat) (hi:0<len) (hli:lp[0]? = some (.pointer (some ⟨cg,0,none⟩))) (s0:List Int) (hch:ChSt cg cm s0 [] 0 [] w) (tc tq th tr:TypeId) (hc:w.heap[4]? = some (.cells (ints .u64 QaQ) tc)) (hq:w.heap[3]? = some (.cells (ints .u64 Qa6) tq)) (hr4:w.heap[1]? = some (.cells (ints .i64 qQ) tr)) (hh4:w.heap[0]? = some (.cells (ints .u32 qH) th)) (hNc:4∉[cg,cm]) (hNq:3∉[cg,cm]) (hNr:1∉[cg,cm]) (hNh:0∉[cg,cm]) (text fs:List Int) (htl:text.length≤1024) (htb:Qaj text) (es:Qdc ((keyV (itV s0 0)).take 32) ((keyV (itV s0 0)).drop 32) (grp++[0,0,0,0]++[0]++[0,0,0,0]) text=fs) (hgrb:Qaj grp) (v:Value) (hst:∀ W,Ext w W→RdK .u8 W.heap.size fs v W) :
  Calls Tryd.prog 9 #[.pointer (some ⟨gb,0,none⟩),.agg (cat [ints .u8 grp,#[.int .i64 0],#[.int .i64 0],#[.int .i64 0],#[v]])] w (fun x W=>∃ u,x=.returned (.tuple #[u,.nilIface])∧Qah [cg,cm] w W∧ChSt cg cm s0 [0] 1 (Qdz [] s0 0 0) W∧OwnN .u8 5 w.heap.size text u W):=by
 obtain ⟨a_s,c_s,rfl,-⟩:=id (hst _ (zaY _))
 have hctxb:Qaj (grp++[0,0,0,0]++[0]++[0,0,0,0]):=fun x hx=>by
  simp only [zao,za8] at hx
  rcases hx with h | h
  ·exact hgrb x h
  ·have:x=0:=by simpa using h
   subst this; exact ⟨by decide,by decide⟩
 have hnl:((keyV (itV s0 0)).drop 32).length=12:=by rw [zaV,QaK]
 have hfl:fs.length=text.length+16:=by rw [←es]; exact QcG _ _ _ _
 have hfb:Qaj fs:=es▸Qd2 _ _ _ _
 obtain ⟨xs,hxs⟩:=Qfh grp fs hgl (by omega)
 refine enter 91 [(0,.pointer (some ⟨gb,0,none⟩)),(1,.agg (cat [ints .u8 (grp),#[.int .i64 0],#[.int .i64 0],#[.int .i64 0],#[.slice a_s fs.length c_s]]))] Tryd.func9 rfl rfl kj rfl ?_
 refine wp_seq_k fun K9 hK9=>?_
 refine Qad ?_
 refine Qam (cat [ints .u8 (grp),#[.int .i64 0],#[.int .i64 0],#[.int .i64 0],#[.slice a_s fs.length c_s]]) 35 3 rfl kj kj fun g10 W1 l10 e1 r10_1=>?_
 have x1:Ext w W1:=zbb (zaY w) e1
 have b10:w.heap.size≤g10:=qT (zaY w).size l10
 refine Qaa (.slice none 0 0) 4 rfl kj kj ?_
 refine Qaa (.nilIface) 5 rfl kj kj ?_
 refine Qag ?_
 refine hK9 _ _ ?_
 refine wp_seq_k fun K11 hK11=>?_
 refine wp_seq_k fun K12 hK12=>?_
 refine Qad ?_
 refine Qaa (.pointer (some ⟨gb,0,none⟩)) 14 rfl kj kj ?_
 have r1_1:=(Qab hgb e1)
 refine Qat (.pointer (some ⟨ge,0,none⟩)) 16 #[.pointer (some ⟨gb,0,none⟩)] 15 rfl kj kj (QeN gb ge ce gc tl grp hgl _ r1_1) fun W2 e2=>?_
 have x2:Ext w W2:=zbb x1 e2
 refine Qaa (.bool false) 16 rfl kj kj ?_
 refine Qag ?_
 refine hK12 _ _ ?_
 refine cond_false kj ?_
 refine wp_skip ?_
 refine hK11 _ _ ?_
 refine wp_seq_k fun K13 hK13=>?_
 refine wp_seq_k fun K14 hK14=>?_
 refine Qad ?_
 have r10_2:=(Qab r10_1 e2)
 refine Qaa (.agg (cat [ints .u8 (grp),#[.int .i64 0],#[.int .i64 0],#[.int .i64 0],#[.slice a_s fs.length c_s]])) 19 rfl kj (Qao 35 _ g10 35 _ _ r10_2 rfl kj kj (isz (n:=36) kj (by rw [Qac,Qac,Qac,Qac,Qac]; simp only [qS,cat,((Qap _ _).trans hgl)]; rfl))) ?_
 refine Qav (fun v W'=>(Wr.PutR W2.heap.size (some xs)) v W'∧Ext W2 W') 22 #[.agg (cat [ints .u8 (grp),#[.int .i64 0],#[.int .i64 0],#[.int .i64 0],#[.slice a_s fs.length c_s]])] 20 rfl kj kj ((Wr.PutPacket_S grp 0 0 0 fs a_s c_s _ hgl hgrb (by omega) hfb (hst _ x2) xs hxs).mono (by rintro e w' ⟨v,rfl,e1,hv⟩; exact ⟨v,rfl,hv,e1⟩)) fun vv16 W3 hh16=>?_
 obtain ⟨hv16,e3⟩:=hh16
 have x3:Ext w W3:=zbb x2 e3
 obtain ⟨pu15,rfl,hpu15⟩:=hv16
 refine Qaa (.tuple #[pu15,.nilIface]) 18 rfl kj kj ?_
 refine Qaa (pu15) 21 rfl kj kj ?_
 refine Qaa (.nilIface) 22 rfl kj kj ?_
 refine Qaa (pu15) 6 rfl kj kj ?_
 refine Qaa (.nilIface) 7 rfl kj kj ?_
 refine Qag ?_
 refine hK14 _ _ ?_
 refine wp_seq_k fun K17 hK17=>?_
 refine Qad ?_
 refine Qaa (.nilIface) 23 rfl kj kj ?_
 refine Qaa (.bool false) 24 rfl kj kj ?_
 refine Qag ?_
 refine hK17 _ _ ?_
 refine cond_false kj ?_
 refine wp_skip ?_
 refine hK13 _ _ ?_
 refine wp_seq_k fun K18 hK18=>?_
 refine wp_seq_k fun K19 hK19=>?_
 refine Qad ?_
 refine Qaa (.pointer (some ⟨g10,35,none⟩)) 26 rfl kj kj ?_
 have r10_3:=(Qab r10_2 e3)
 refine Qaa (.slice a_s fs.length c_s) 27 rfl kj (Qae 33 _ g10 35 35 _ (.slice a_s fs.length c_s) _ r10_3 rfl kj (Qaq [ints .u8 (grp),#[.int .i64 0],#[.int .i64 0],#[.int .i64 0]] [#[.slice a_s fs.length c_s]] [] 35 (by rw [Qac,Qac,Qac,Qac]; simp only [qS,cat,((Qap _ _).trans hgl)]; rfl) 0 _ rfl) kj) ?_
 refine Qaa (.int .i64 ((fs.length:Nat):Int)) 28 rfl kj kj ?_
 refine Qaa (.bool false) 29 rfl kj (Qai (u:=.bool (decide (((fs.length:Nat):Int)>1040))) kj (congrArg zau (decide_eq_false (by omega)))) ?_
 refine Qag ?_
 refine hK19 _ _ ?_
 refine cond_false kj ?_
 refine wp_skip ?_
 refine hK18 _ _ ?_
 refine wp_seq_k fun K20 hK20=>?_
 refine Qad ?_
 refine Qaa (.pointer (some ⟨gb,0,none⟩)) 31 rfl kj kj ?_
 refine Qaa (.agg (cat [ints .u8 (grp),#[.int .i64 0],#[.int .i64 0],#[.int .i64 0],#[.slice a_s fs.length c_s]])) 32 rfl kj (Qao 35 _ g10 35 _ _ r10_3 rfl kj kj (isz (n:=36) kj (by rw [Qac,Qac,Qac,Qac,Qac]; simp only [qS,cat,((Qap _ _).trans hgl)]; rfl))) ?_
 have r1_2:=(Qab r1_1 e2)
 have r1_3:=(Qab r1_2 e3)
 have r2_1:=(Qab hge e1)
 have r2_2:=(Qab r2_1 e2)
 have r2_3:=(Qab r2_2 e3)
 refine Qat (.pointer (some ⟨ge,0,none⟩)) 23 #[.pointer (some ⟨gb,0,none⟩),.agg (cat [ints .u8 (grp),#[.int .i64 0],#[.int .i64 0],#[.int .i64 0],#[.slice a_s fs.length c_s]])] 33 rfl kj kj (of_1 gb ge ce gc tl grp hgl _ r1_3 r2_3 a_s _ c_s) fun W4 e4=>?_
 have x4:Ext w W4:=zbb x3 e4
 refine Qaa (.pointer (some ⟨ge,0,none⟩)) 8 rfl kj kj ?_
 refine Qag ?_
 refine hK20 _ _ ?_
 refine wp_seq_k fun K21 hK21=>?_
 refine wp_seq_k fun K22 hK22=>?_
 refine Qad ?_
 refine Qaa (.pointer (some ⟨ge,0,none⟩)) 34 rfl kj kj ?_
 refine Qaa (.bool false) 35 rfl kj kj ?_
 refine Qag ?_
 refine hK22 _ _ ?_
 refine cond_false kj ?_
 refine wp_skip ?_
 refine hK21 _ _ ?_
 refine wp_seq_k fun K23 hK23=>?_
 refine wp_seq_k fun K24 hK24=>?_
 refine QaU 7 [⟨none,[(3,none)]⟩,⟨none,[(37,some 0)]⟩,⟨none,[(8,none)]⟩,⟨none,[(39,some 2)]⟩,⟨none,[(40,some 3)]⟩,⟨none,[(41,some 4)]⟩,⟨none,[(38,some 1),(42,some 5)]⟩] kj kj fun F hF=>?_
 refine Qar (.pointer (some ⟨g10,33,none⟩)) kj kj (fun W=>by kernel_rfl) ?_
 have r10_4:=(Qab r10_3 e4)
 refine QaI (.int .i64 0) kj kj (fun W hR=>(Qae 3 _ g10 33 35 _ (.int .i64 0) _ (Qab (Qab r10_4 (Qan _)) hR) rfl kj (Qaq [ints .u8 (grp),#[.int .i64 0]] [#[.int .i64 0]] [#[.int .i64 0],#[.slice a_s fs.length c_s]] 33 (by rw [Qac,Qac]; simp only [qS,cat,((Qap _ _).trans hgl)]; rfl) 0 _ rfl) kj)) ?_
 refine Qar (.pointer (some ⟨ge,0,none⟩)) kj kj (fun W=>by kernel_rfl) ?_
 refine Qar (.pointer (some ⟨ge,0,none⟩)) kj kj (fun W=>by kernel_rfl) ?_
 refine Qar (.pointer (some ⟨ge,34,none⟩)) kj kj (fun W=>by kernel_rfl) ?_
 have r2_4:=(Qab r2_3 e4)
 refine QaI (.int .i64 1) kj kj (fun W hR=>(Qae 3 _ ge 34 55 _ (.int .i64 1) _ (Qab (Qab r2_4 (Qan _)) hR) rfl kj (Qaq [#[.pointer (some ⟨gc,0,none⟩)],ints .u8 (grp),#[.int .i64 0]] [#[.int .i64 1]] [tl] 34 (by rw [Qac,Qac,Qac]; simp only [qS,cat,((Qap _ _).trans hgl)]; rfl) 0 _ rfl) kj)) ?_
 refine Qar (.bool false) kj kj (fun W=>by kernel_rfl) ?_
 refine Qbd (hF _ kj fun W5 e5=>?_)
 simp only [ups,up,Kn.val,za2,za3,za4,za5,zax,za6]
 clear hF
 have x5:Ext w W5:=zbb x4 e5
 refine Qag ?_
 refine hK24 _ _ ?_
 refine cond_false kj ?_
 refine wp_skip ?_
 refine hK23 _ _ ?_
 refine wp_seq_k fun K25 hK25=>?_
 have r1_4:=(Qab r1_3 e4)
 have r1_5:=(Qab r1_4 e5)
 have r2_5:=(Qab r2_4 e5)
 have r3_1:=(Qab hgc e1)
 have r3_2:=(Qab r3_1 e2)
 have r3_3:=(Qab r3_2 e3)
 have r3_4:=(Qab r3_3 e4)
 have r3_5:=(Qab r3_4 e5)
 have r4_1:=(Qab hgl_ e1)
 have r4_2:=(Qab r4_1 e2)
 have r4_3:=(Qab r4_2 e3)
 have r4_4:=(Qab r4_3 e4)
 have r4_5:=(Qab r4_4 e5)
 have r5_1:=(Qab hc e1)
 have r5_2:=(Qab r5_1 e2)
 have r5_3:=(Qab r5_2 e3)
 have r5_4:=(Qab r5_3 e4)
 have r5_5:=(Qab r5_4 e5)
 have r6_1:=(Qab hq e1)
 have r6_2:=(Qab r6_1 e2)
 have r6_3:=(Qab r6_2 e3)
 have r6_4:=(Qab r6_3 e4)
 have r6_5:=(Qab r6_4 e5)
 have r7_1:=(Qab hr4 e1)
 have r7_2:=(Qab r7_1 e2)
 have r7_3:=(Qab r7_2 e3)
 have r7_4:=(Qab r7_3 e4)
 have r7_5:=(Qab r7_4 e5)
 have r8_1:=(Qab hh4 e1)
 have r8_2:=(Qab r8_1 e2)
 have r8_3:=(Qab r8_2 e3)
 have r8_4:=(Qab r8_3 e4)
 have r8_5:=(Qab r8_4 e5)
 have r10_5:=(Qab r10_4 e5)
 have hch0a:ChSt cg cm s0 [] 0 [] W5:=hch.ext x5
 have hcg0a:=hch0a.glt
 have hcm0a:=hch0a.mp.lt
 refine Qdd (fun W=>Ext W5 W) kj fun Wsa eWsa=>⟨eWsa,?_⟩
 refine QaV 0 (.pointer (some ⟨ge,0,none⟩)) 46 rfl rfl kj kj (fun _ _ _ h=>h) (fun W hR=>by kernel_rfl) ?_
 refine QaV 1 (.pointer (some ⟨ge,0,none⟩)) 47 rfl rfl kj kj (fun _ _ _ h=>h) (fun W hR=>by kernel_rfl) ?_
 refine QaV 2 (.pointer (some ⟨ge,0,none⟩)) 48 rfl rfl kj kj (fun _ _ _ h=>h) (fun W hR=>by kernel_rfl) ?_
 refine QaV 3 (.pointer (some ⟨gc,0,none⟩)) 49 rfl rfl kj kj (fun _ _ _ h=>h) (fun W hR=>(Qae 53 _ ge 0 55 _ (.pointer (some ⟨gc,0,none⟩)) _ (Qab r2_5 hR) rfl kj (Qaq [] [#[.pointer (some ⟨gc,0,none⟩)]] [ints .u8 (grp),#[.int .i64 0],#[.int .i64 1],tl] 0 kj 0 _ rfl) kj)) ?_
 refine QaV 4 (.pointer (some ⟨g10,33,none⟩)) 50 rfl rfl kj kj (fun _ _ _ h=>h) (fun W hR=>by kernel_rfl) ?_
 refine QaV 5 (.int .i64 0) 51 rfl rfl kj kj (fun _ _ _ h=>h) (fun W hR=>(Qae 3 _ g10 33 35 _ (.int .i64 0) _ (Qab r10_5 hR) rfl kj (Qaq [ints .u8 (grp),#[.int .i64 0]] [#[.int .i64 0]] [#[.int .i64 0],#[.slice a_s fs.length c_s]] 33 (by rw [Qac,Qac]; simp only [qS,cat,((Qap _ _).trans hgl)]; rfl) 0 _ rfl) kj)) ?_
 refine QaV 6 (.pointer (some ⟨g10,34,none⟩)) 52 rfl rfl kj kj (fun _ _ _ h=>h) (fun W hR=>by kernel_rfl) ?_
 refine QaV 7 (.int .i64 0) 53 rfl rfl kj kj (fun _ _ _ h=>h) (fun W hR=>(Qae 3 _ g10 34 35 _ (.int .i64 0) _ (Qab r10_5 hR) rfl kj (Qaq [ints .u8 (grp),#[.int .i64 0],#[.int .i64 0]] [#[.int .i64 0]] [#[.slice a_s fs.length c_s]] 34 (by rw [Qac,Qac,Qac]; simp only [qS,cat,((Qap _ _).trans hgl)]; rfl) 0 _ rfl) kj)) ?_
 refine Qi5 8 12 3 rfl rfl kj kj kj 54 9 rfl rfl kj (fun _=>kj) (fun W=>ChSt cg cm s0 [] 0 [] W) Ext (fun u W=>ChSt cg cm s0 [] 0 [] W∧QbO W5.heap.size 0 (keyV (itV s0 0)) u W) (fun v W=>∃ g,v=.pointer (some ⟨g,0,none⟩)∧W5.heap.size≤g∧W.heap[g]? = some (.cells (cat [#[.int .i64 0],ints .u8 (zam 32 0),#[.slice none 0 0]]) 60)) (fun u=>[(56,.nilIface),(55,u),(45,.tuple #[u,.nilIface])]) _ _ _ rfl kj (fun u x hx=>by simp only [za7,zal,or_false] at hx; rcases hx with rfl | rfl | rfl; exact (by decide:(56:Nat)≠9); exact (by decide:(55:Nat)≠9); exact (by decide:(45:Nat)≠9)) (by decide) (fun _ _ e h=>h.ext e) (fun _ _ h e=>zbb h e) (fun _ _ _ e h=>⟨h.1.ext e,QbO.ext h.2 e⟩) (fun _ _ _ _ hK h=>by obtain ⟨g,a1,a2,a3⟩:=h; exact ⟨g,a1,a2,Qab a3 hK⟩) (fun W hR hP=>⟨24,#[.pointer (some ⟨gc,0,none⟩),.int .i64 0,.int .i64 0],by kernel_rfl,(show Calls Tryd.prog 24 #[.pointer (some ⟨gc,0,none⟩),.int .i64 0,.int .i64 0] W _ from QmP gc gl len cap lp W (Qab r3_5 hR) (Qab r4_5 hR) cg 0 hi hli tc tq (Qab r5_5 hR) (Qab r6_5 hR) hP 0 (by decide)).mono (by rintro e W' ⟨v,rfl,k1,u,rfl,k3⟩; exact ⟨u,rfl,zbb hR k1,k1,hP.ext k1,QbO.base hR.size k3⟩)⟩) (fun L' W hR=>⟨_,_,(by kernel_rfl:_=zaX (Next.value (.pointer (some ⟨W.heap.size,0,none⟩))) (W.alloc (.cells (cat [#[.int .i64 0],ints .u8 (zam 32 0),#[.slice none 0 0]]) 60))),QaZ _ _,_,rfl,hR.size,heap_alloc_new _ _⟩) (hch0a.ext eWsa) (fun u W hR kk=>by refine QaV 9 (.tuple #[u,.nilIface]) 45 rfl rfl kj kj (fun _ _ _ h=>h) (fun W hR=>by kernel_rfl) ?_; refine QaV 10 (u) 55 rfl rfl kj kj (fun _ _ _ h=>h) (fun W hR=>by kernel_rfl) ?_; refine QaV 11 (.nilIface) 56 rfl rfl kj kj (fun _ _ _ h=>h) (fun W hR=>by kernel_rfl) ?_; exact QeV 12 kj kk) (fun u v2 W hR kk=>by refine QaV 9 (.tuple #[u,.nilIface]) 45 rfl rfl kj kj (fun _ _ _ h=>h) (fun W hR=>by kernel_rfl) ?_; refine QaV 10 (u) 55 rfl rfl kj kj (fun _ _ _ h=>h) (fun W hR=>by kernel_rfl) ?_; refine QaV 11 (.nilIface) 56 rfl rfl kj kj (fun _ _ _ h=>h) (fun W hR=>by kernel_rfl) ?_; exact kk) fun u1 v2 W6 q1 q2 e6=>?_
 obtain ⟨hch2a,uo,rfl,hua⟩:=q1
 obtain ⟨g7a,rfl,l7a,r7a_6⟩:=q2
 obtain ⟨a_na,c_na,rfl,-⟩:=id (zbf hua)
 have nb7a:=Ql1 hua r7a_6 (by decide)
 have x6:Ext w W6:=zbb x5 e6
 have b7a:w.heap.size≤g7a:=qT x5.size l7a
 refine QeV 13 kj (Qfs g7a _ (cat [#[.int .i64 0],ints .u8 ((keyV (itV s0 0)).take 32),#[.slice a_na (((keyV (itV s0 0)).drop 32).length) c_na]]) 60 r7a_6 rfl rfl kj (Qal 60 _ _ g7a 60 _ _ r7a_6 rfl kj kj (isz (n:=34) kj (by rw [Qac,Qac,Qac]; simp only [qS,cat,((Qap _ _).trans (Qbc (QaK _)))]; rfl)) (eqsz (n:=34) (by rw [Qac,Qac,Qac]; simp only [qS,cat,((Qap _ _).trans (qZ (n:=32)))]; rfl) (by rw [Qac,Qac,Qac]; simp only [qS,cat,((Qap _ _).trans (Qbc (QaK _)))]; rfl)) (Qbu _ (by intro a ha; simp only [za7,zal,or_false] at ha; rcases ha with rfl | rfl | rfl; exact (Qa9 _ rfl); exact (Qay _ _); exact (Qa9 _ rfl)))) (fun W' p=>Puts.ext p e6 l7a) fun W7 p7 r7a_7=>?_)
 have hu2a:=Qf2 hua p7 nb7a
 have hch3a:=hch2a.keep (p7.2.2.2.2 cg (zaw (qL hcg0a l7a))) (p7.2.2.2.2 cm (zaw (qL hcm0a l7a)))
 have x7:Ext w W7:=Puts.ext p7 x6 b7a
 refine QaV 14 (.nilIface) 10 rfl rfl kj kj (fun _ _ _ h=>h) (fun W hR=>by kernel_rfl) ?_
 refine Qi4 kj ?_
 refine hK25 _ _ ?_
 refine wp_seq_k fun K27 hK27=>?_
 refine wp_seq_k fun K28 hK28=>?_
 refine Qad ?_
 refine Qaa (.nilIface) 57 rfl kj kj ?_
 refine Qaa (.bool false) 58 rfl kj kj ?_
 refine Qag ?_
 refine hK28 _ _ ?_
 refine cond_false kj ?_
 refine wp_skip ?_
 refine hK27 _ _ ?_
 refine wp_seq_k fun K29 hK29=>?_
 refine Wk.any_regionEZ 9 [⟨none,[(9,none)]⟩,⟨none,[(61,some 0)]⟩,⟨none,[(9,none)]⟩,⟨none,[(63,some 2)]⟩,⟨none,[(3,none)]⟩,⟨none,[(65,some 4)]⟩,⟨none,[(3,none)]⟩,⟨none,[(67,some 6)]⟩,⟨none,[(62,some 1),(64,some 3),(66,some 5),(68,some 7)]⟩] kj kj fun F hF=>?_
 refine QaF (Qaw _) (.pointer (some ⟨g7a,1,none⟩)) kj kj (fun W=>by kernel_rfl) ?_
 refine Qbt (Qaw _) (.agg (ints .u8 ((keyV (itV s0 0)).take 32))) kj kj (fun W hR=>(Qa4 58 _ g7a 1 60 _ _ _ (Qab (Qab r7a_7 (Qan _)) hR) rfl kj (Qaq [#[.int .i64 0]] [ints .u8 ((keyV (itV s0 0)).take 32)] [#[.slice a_na (((keyV (itV s0 0)).drop 32).length) c_na]] 1 kj) kj (isz (n:=32) kj ((Qap _ _).trans (Qbc (QaK _)))))) ?_
 refine QaF (Qaw _) (.pointer (some ⟨g7a,33,none⟩)) kj kj (fun W=>by kernel_rfl) ?_
 refine Qbt (Qaw _) (.slice a_na (((keyV (itV s0 0)).drop 32).length) c_na) kj kj (fun W hR=>(Qae 33 _ g7a 33 60 _ (.slice a_na (((keyV (itV s0 0)).drop 32).length) c_na) _ (Qab (Qab r7a_7 (Qan _)) hR) rfl kj (Qaq [#[.int .i64 0],ints .u8 ((keyV (itV s0 0)).take 32)] [#[.slice a_na (((keyV (itV s0 0)).drop 32).length) c_na]] [] 33 (by rw [Qac,Qac]; simp only [qS,cat,((Qap _ _).trans (Qbc (QaK _)))]; rfl) 0 _ rfl) kj)) ?_
 have r10_6:=(Qab r10_5 e6)
 have r10_7:=(zba p7 r10_6 (zaw (qL (Qas r10_5) l7a)))
 refine Qbt (Qaw _) (.agg (cat [ints .u8 (grp),#[.int .i64 0],#[.int .i64 0],#[.int .i64 0],#[.slice a_s fs.length c_s]])) kj kj (fun W hR=>(Qao 35 _ g10 35 _ _ (Qab (Qab r10_7 (Qan _)) hR) rfl kj kj (isz (n:=36) kj (by rw [Qac,Qac,Qac,Qac,Qac]; simp only [qS,cat,((Qap _ _).trans hgl)]; rfl)))) ?_
 refine QeM (Qaw _) (OwnN .u8 5 W7.heap.size (grp++[0,0,0,0]++[0]++[0,0,0,0])) (OwnN.stable _ _ _ _) 21 #[.agg (cat [ints .u8 (grp),#[.int .i64 0],#[.int .i64 0],#[.int .i64 0],#[.slice a_s fs.length c_s]])] kj kj (fun W=>by kernel_rfl) (fun W hR=>((Qgv grp hgl _ _ _ _).mono fun e W2 hg=>by obtain ⟨v2,e1,e2,e3⟩:=hg; exact ⟨v2,e1,e2,zbe (zaZ (Qan _) hR).size e3⟩)) ?_
 refine QaF (Qaw _) (.pointer (some ⟨g10,35,none⟩)) kj kj (fun W=>by kernel_rfl) ?_
 refine Qbt (Qaw _) (.slice a_s fs.length c_s) kj kj (fun W hR=>(Qae 33 _ g10 35 35 _ (.slice a_s fs.length c_s) _ (Qab (Qab r10_7 (Qan _)) hR) rfl kj (Qaq [ints .u8 (grp),#[.int .i64 0],#[.int .i64 0],#[.int .i64 0]] [#[.slice a_s fs.length c_s]] [] 35 (by rw [Qac,Qac,Qac,Qac]; simp only [qS,cat,((Qap _ _).trans hgl)]; rfl) 0 _ rfl) kj)) ?_
 have r8_6:=(Qab r8_5 e6)
 have r8_7:=(zba p7 r8_6 (zaw (qL (Qas r8_5) l7a)))
 have r7_6:=(Qab r7_5 e6)
 have r7_7:=(zba p7 r7_6 (zaw (qL (Qas r7_5) l7a)))
 refine Qh7 (Qaw _) (MixR W7.heap.size text) (QeG _ _) 25 (fun ρ W hR hX=>?_) ?_
 ·skip
  have e62_:ρ 62=.agg (ints .u8 ((keyV (itV s0 0)).take 32)):=hX.1
  have e64_:ρ 64=.slice a_na (((keyV (itV s0 0)).drop 32).length) c_na:=hX.2.1
  have q66_:(OwnN .u8 5 W7.heap.size (grp++[0,0,0,0]++[0]++[0,0,0,0])) (ρ 66) W:=hX.2.2.1
  obtain ⟨ar66,cr66,e66_,-⟩:=id (zbf q66_)
  have rd66_:=zbf q66_
  rw [e66_] at rd66_
  have e68_:ρ 68=.slice a_s fs.length c_s:=hX.2.2.2.1
  refine ⟨#[.agg (ints .u8 ((keyV (itV s0 0)).take 32)),.slice a_na (((keyV (itV s0 0)).drop 32).length) c_na,.slice ar66 ((grp++[0,0,0,0]++[0]++[0,0,0,0]).length) cr66,.slice a_s fs.length c_s],Eq.trans (b:=zaX (Next.enter 25 #[ρ 62,ρ 64,ρ 66,ρ 68]) W) kj (by rw [e62_,e64_,e66_,e68_]),?_⟩
  exact ((QmC ((keyV (itV s0 0)).take 32) ((keyV (itV s0 0)).drop 32) (grp++[0,0,0,0]++[0]++[0,0,0,0]) text fs es _ _ _ _ _ _ th tr W (Qab (Qab r8_7 (Qan _)) hR) (Qab (Qab r7_7 (Qan _)) hR) (Qbc (QaK _)) (RdK.ext (zbf hu2a) (zaZ (Qan _) hR)) rd66_ (RdK.ext (hst _ x7) (zaZ (Qan _) hR)) hctxb htb hnl (by simp [hgl]) (by omega)).mono fun e W2 hg=>by obtain ⟨v2,e1,e2,u,e3,e4⟩:=hg; exact ⟨v2,e1,e2,u,e3,e4.base (zaZ (Qan _) hR).size⟩)
 refine Qdj (hF _ fun W8 e8=>?_)
 simp only [zax,za6,za2,za3,za4,za5,finE,up]
 intro vv30 hv30 vv31 hv31
 clear hF
 have x8:Ext w W8:=zbb x7 e8
 obtain ⟨a32_,c32_,rfl,-⟩:=id (zbf hv30)
 obtain ⟨uu33,rfl,huu33⟩:=hv31
 obtain ⟨au33,cu33,rfl,-⟩:=id (zbf huu33)
 refine (show Wk.WZ _ _ _ 5 #[true,true,true,true,true,true,true,true,true,false,false,false,false,false] _ _ from ?_)
 refine Wk.wz_val 9 (.tuple #[.slice au33 ((text).length) cu33,.nilIface]) 60 rfl rfl kj kj (fun _ _ _ h=>h) (fun W=>by kernel_rfl) ?_
 refine Wk.wz_val 10 (.slice au33 ((text).length) cu33) 70 rfl rfl kj kj (fun _ _ _ h=>h) (fun W=>by kernel_rfl) ?_
 refine Wk.wz_val 11 (.nilIface) 71 rfl rfl kj kj (fun _ _ _ h=>h) (fun W=>by kernel_rfl) ?_
 refine Wk.wz_val 12 (.slice au33 ((text).length) cu33) 11 rfl rfl kj kj (fun _ _ _ h=>h) (fun W=>by kernel_rfl) ?_
 refine Wk.wz_val 13 (.nilIface) 10 rfl rfl kj kj (fun _ _ _ h=>h) (fun W=>by kernel_rfl) ?_
 refine Wk.wz_nil kj ?_
 refine hK29 _ _ ?_
 refine wp_seq_k fun K34 hK34=>?_
 refine wp_seq_k fun K35 hK35=>?_
 refine Qad ?_
 refine Qaa (.nilIface) 72 rfl kj kj ?_
 refine Qaa (.bool false) 73 rfl kj kj ?_
 refine Qag ?_
 refine hK35 _ _ ?_
 refine cond_false kj ?_
 refine wp_skip ?_
 refine hK34 _ _ ?_
 refine wp_seq_k fun K36 hK36=>?_
 refine wp_seq_k fun K37 hK37=>?_
 have r1_6:=(Qab r1_5 e6)
 have r1_7:=(zba p7 r1_6 (zaw (qL (Qas r1_5) l7a)))
 have r1_8:=(Qab r1_7 e8)
 have r2_6:=(Qab r2_5 e6)
 have r2_7:=(zba p7 r2_6 (zaw (qL (Qas r2_5) l7a)))
 have r2_8:=(Qab r2_7 e8)
 have r3_6:=(Qab r3_5 e6)
 have r3_7:=(zba p7 r3_6 (zaw (qL (Qas r3_5) l7a)))
 have r3_8:=(Qab r3_7 e8)
 have r4_6:=(Qab r4_5 e6)
 have r4_7:=(zba p7 r4_6 (zaw (qL (Qas r4_5) l7a)))
 have r4_8:=(Qab r4_7 e8)
 have r5_6:=(Qab r5_5 e6)
 have r5_7:=(zba p7 r5_6 (zaw (qL (Qas r5_5) l7a)))
 have r5_8:=(Qab r5_7 e8)
 have r6_6:=(Qab r6_5 e6)
 have r6_7:=(zba p7 r6_6 (zaw (qL (Qas r6_5) l7a)))
 have r6_8:=(Qab r6_7 e8)
 have r7_8:=(Qab r7_7 e8)
 have r8_8:=(Qab r8_7 e8)
 have r10_8:=(Qab r10_7 e8)
 have y7_8:Ext W7 W8:=(zaZ (zaY W7) e8)
 have hch0b:ChSt cg cm s0 [] 0 [] W8:=hch3a.ext y7_8
 have hcg0b:=hch0b.glt
 have hcm0b:=hch0b.mp.lt
 refine Qdd (fun W=>Qah [cg,cm] W8 W) kj fun Wsb eWsb=>⟨zbh (Qah.refl _ _) eWsb,?_⟩
 refine QaV 0 (.pointer (some ⟨ge,0,none⟩)) 76 rfl rfl kj kj (fun _ _ _ h=>h) (fun W hR=>by kernel_rfl) ?_
 refine QaV 1 (.pointer (some ⟨ge,0,none⟩)) 77 rfl rfl kj kj (fun _ _ _ h=>h) (fun W hR=>by kernel_rfl) ?_
 refine QaV 2 (.pointer (some ⟨ge,0,none⟩)) 78 rfl rfl kj kj (fun _ _ _ h=>h) (fun W hR=>by kernel_rfl) ?_
 refine QaV 3 (.pointer (some ⟨gc,0,none⟩)) 79 rfl rfl kj kj (fun _ _ _ h=>h) (fun W hR=>(Qae 53 _ ge 0 55 _ (.pointer (some ⟨gc,0,none⟩)) _ (zbg hR r2_8 (nin r2_8 hch0b (by decide))) rfl kj (Qaq [] [#[.pointer (some ⟨gc,0,none⟩)]] [ints .u8 (grp),#[.int .i64 0],#[.int .i64 1],tl] 0 kj 0 _ rfl) kj)) ?_
 refine QaV 4 (.pointer (some ⟨g10,33,none⟩)) 80 rfl rfl kj kj (fun _ _ _ h=>h) (fun W hR=>by kernel_rfl) ?_
 refine QaV 5 (.int .i64 0) 81 rfl rfl kj kj (fun _ _ _ h=>h) (fun W hR=>(Qae 3 _ g10 33 35 _ (.int .i64 0) _ (zbg hR r10_8 (nin r10_8 hch0b (by decide))) rfl kj (Qaq [ints .u8 (grp),#[.int .i64 0]] [#[.int .i64 0]] [#[.int .i64 0],#[.slice a_s fs.length c_s]] 33 (by rw [Qac,Qac]; simp only [qS,cat,((Qap _ _).trans hgl)]; rfl) 0 _ rfl) kj)) ?_
 refine QaV 6 (.pointer (some ⟨g10,34,none⟩)) 82 rfl rfl kj kj (fun _ _ _ h=>h) (fun W hR=>by kernel_rfl) ?_
 refine QaV 7 (.int .i64 0) 83 rfl rfl kj kj (fun _ _ _ h=>h) (fun W hR=>(Qae 3 _ g10 34 35 _ (.int .i64 0) _ (zbg hR r10_8 (nin r10_8 hch0b (by decide))) rfl kj (Qaq [ints .u8 (grp),#[.int .i64 0],#[.int .i64 0]] [#[.int .i64 0]] [#[.slice a_s fs.length c_s]] 34 (by rw [Qac,Qac,Qac]; simp only [qS,cat,((Qap _ _).trans hgl)]; rfl) 0 _ rfl) kj)) ?_
 refine Qi5 8 12 3 rfl rfl kj kj kj 84 12 rfl rfl kj (fun _=>kj) (fun W=>ChSt cg cm s0 [] 0 [] W) (Qah [cg,cm]) (fun u W=>ChSt cg cm s0 [0] 1 (Qdz [] s0 0 0) W∧QbO W8.heap.size 0 (keyV (itV s0 0)) u W) (fun v W=>∃ g,v=.pointer (some ⟨g,0,none⟩)∧W8.heap.size≤g∧W.heap[g]? = some (.cells (cat [#[.int .i64 0],ints .u8 (zam 32 0),#[.slice none 0 0]]) 60)) (fun u=>[(86,.nilIface),(85,u),(75,.tuple #[u,.nilIface])]) _ _ _ rfl kj (fun u x hx=>by simp only [za7,zal,or_false] at hx; rcases hx with rfl | rfl | rfl; exact (by decide:(86:Nat)≠12); exact (by decide:(85:Nat)≠12); exact (by decide:(75:Nat)≠12)) (by decide) (fun _ _ e h=>h.ext e) (fun _ _ h e=>zbh h e) (fun _ _ _ e h=>⟨h.1.ext e,QbO.ext h.2 e⟩) (fun _ _ _ _ hK h=>by obtain ⟨g,a1,a2,a3⟩:=h; exact ⟨g,a1,a2,zbg hK a3 (Qax (zaW (qL hcg0b a2)) (Qax (zaW (qL hcm0b a2)) QaD))⟩) (fun W hR hP=>⟨26,#[.pointer (some ⟨gc,0,none⟩),.int .i64 0,.int .i64 0],by kernel_rfl,(show Calls Tryd.prog 26 #[.pointer (some ⟨gc,0,none⟩),.int .i64 0,.int .i64 0] W _ from QkL gc gl len cap lp W (zbg hR r3_8 (nin r3_8 hch0b (by decide))) (zbg hR r4_8 (nin r4_8 hch0b (by decide))) cg 0 hi hli tc tq (zbg hR r5_8 hNc) (zbg hR r6_8 hNq) hP 0 (by decide) (fun e=>hNc (by simp [←e])) (fun e=>hNq (by simp [←e]))).mono (by rintro e W' ⟨u,rfl,k1,k2,k3⟩; exact ⟨u,rfl,Qah.keeps hR k1 (fun c hc=>.inl hc),k1,k2,QbO.base (Qah.size hR) k3⟩)⟩) (fun L' W hR=>⟨_,_,(by kernel_rfl:_=zaX (Next.value (.pointer (some ⟨W.heap.size,0,none⟩))) (W.alloc (.cells (cat [#[.int .i64 0],ints .u8 (zam 32 0),#[.slice none 0 0]]) 60))),QaZ _ _,_,rfl,Qah.size hR,heap_alloc_new _ _⟩) (hch0b.ext eWsb) (fun u W hR kk=>by refine QaV 9 (.tuple #[u,.nilIface]) 75 rfl rfl kj kj (fun _ _ _ h=>h) (fun W hR=>by kernel_rfl) ?_; refine QaV 10 (u) 85 rfl rfl kj kj (fun _ _ _ h=>h) (fun W hR=>by kernel_rfl) ?_; refine QaV 11 (.nilIface) 86 rfl rfl kj kj (fun _ _ _ h=>h) (fun W hR=>by kernel_rfl) ?_; exact QeV 12 kj kk) (fun u v2 W hR kk=>by refine QaV 9 (.tuple #[u,.nilIface]) 75 rfl rfl kj kj (fun _ _ _ h=>h) (fun W hR=>by kernel_rfl) ?_; refine QaV 10 (u) 85 rfl rfl kj kj (fun _ _ _ h=>h) (fun W hR=>by kernel_rfl) ?_; refine QaV 11 (.nilIface) 86 rfl rfl kj kj (fun _ _ _ h=>h) (fun W hR=>by kernel_rfl) ?_; exact kk) fun u1 v2 W9 q1 q2 q9=>?_
 obtain ⟨hch2b,uo,rfl,hub⟩:=q1
 obtain ⟨g7b,rfl,l7b,r7b_9⟩:=q2
 obtain ⟨a_nb,c_nb,rfl,-⟩:=id (zbf hub)
 have nb7b:=Ql1 hub r7b_9 (by decide)
 refine QeV 13 kj (Qfs g7b _ (cat [#[.int .i64 0],ints .u8 ((keyV (itV s0 0)).take 32),#[.slice a_nb (((keyV (itV s0 0)).drop 32).length) c_nb]]) 60 r7b_9 rfl rfl kj (Qal 60 _ _ g7b 60 _ _ r7b_9 rfl kj kj (isz (n:=34) kj (by rw [Qac,Qac,Qac]; simp only [qS,cat,((Qap _ _).trans (Qbc (QaK _)))]; rfl)) (eqsz (n:=34) (by rw [Qac,Qac,Qac]; simp only [qS,cat,((Qap _ _).trans (qZ (n:=32)))]; rfl) (by rw [Qac,Qac,Qac]; simp only [qS,cat,((Qap _ _).trans (Qbc (QaK _)))]; rfl)) (Qbu _ (by intro a ha; simp only [za7,zal,or_false] at ha; rcases ha with rfl | rfl | rfl; exact (Qa9 _ rfl); exact (Qay _ _); exact (Qa9 _ rfl)))) (fun W' p=>Qah.puts q9 p (.inr l7b)) fun W10 p10 r7b_10=>?_)
 have hu2b:=Qf2 hub p10 nb7b
 have hch3b:=hch2b.keep (p10.2.2.2.2 cg (zaw (qL hcg0b l7b))) (p10.2.2.2.2 cm (zaw (qL hcm0b l7b)))
 have hKb:Qah [cg,cm] W8 W10:=Qah.puts q9 p10 (.inr l7b)
 have hKwb:Qah [cg,cm] w W10:=Qah.keeps (zbh (Qah.refl _ _) x8) hKb (fun c hc=>.inl hc)
 have rkb1:=zba p10 (zbg q9 r1_8 (nin r1_8 hch0b (by decide))) (zaw (qL (Qas r1_8) l7b))
 have rkb2:=zba p10 (zbg q9 r2_8 (nin r2_8 hch0b (by decide))) (zaw (qL (Qas r2_8) l7b))
 have rkb3:=zba p10 (zbg q9 r3_8 (nin r3_8 hch0b (by decide))) (zaw (qL (Qas r3_8) l7b))
 have rkb4:=zba p10 (zbg q9 r4_8 (nin r4_8 hch0b (by decide))) (zaw (qL (Qas r4_8) l7b))
 have rkb5:=zba p10 (zbg q9 r5_8 hNc) (zaw (qL (Qas r5_8) l7b))
 have rkb6:=zba p10 (zbg q9 r6_8 hNq) (zaw (qL (Qas r6_8) l7b))
 have rkb7:=zba p10 (zbg q9 r7_8 hNr) (zaw (qL (Qas r7_8) l7b))
 have rkb8:=zba p10 (zbg q9 r8_8 hNh) (zaw (qL (Qas r8_8) l7b))
 have rkb10:=zba p10 (zbg q9 r10_8 (nin r10_8 hch0b (by decide))) (zaw (qL (Qas r10_8) l7b))
 refine QaV 14 (.nilIface) 13 rfl rfl kj kj (fun _ _ _ h=>h) (fun W hR=>by kernel_rfl) ?_
 refine Qi4 kj ?_
 refine hK37 _ _ ?_
 refine wp_seq_k fun K39 hK39=>?_
 refine Qad ?_
 refine Qaa (.nilIface) 87 rfl kj kj ?_
 refine Qaa (.bool false) 88 rfl kj kj ?_
 refine Qag ?_
 refine hK39 _ _ ?_
 refine cond_false kj ?_
 refine wp_skip ?_
 refine hK36 _ _ ?_
 refine wp_seq_k fun K40 hK40=>?_
 refine Qad ?_
 refine Qaa (.slice au33 ((text).length) cu33) 90 rfl kj kj ?_
 refine Qaa (.slice au33 ((text).length) cu33) 4 rfl kj kj ?_
 refine Qaa (.nilIface) 5 rfl kj kj ?_
 refine Qag ?_
 refine hK40 _ _ ?_
 refine wp_ret ?_
 exact (show bodyPost _ _ _ .ret _ _ from ret2 (.slice au33 ((text).length) cu33) (.nilIface) rfl (Qa0 kj) (Qa0 kj) ⟨_,rfl,hKwb,hch3b,zbe x7.size (QiW huu33 hKb (Qcb huu33 (qL hch.glt x7.size)) (Qcb huu33 (qL hch.mp.lt x7.size)))⟩)
end Pk
end
section
namespace Pk
open Go Go.RowKit
open Rely Auto Own Sha
open Cha
open Ae hiding run_storeQ
open Cn hiding nb_new run_extractT
theorem Qn9 (gc gl len cap:Nat) (lp:Array Value) (w:World) (hgc:w.heap[gc]? = some (.cells #[.slice (some ⟨gl,0,none⟩) len cap] 71)) (hgl_:w.heap[gl]? = some (.cells lp 73)) (cg:Nat) (hi:0<len) (hli:lp[0]? = some (.pointer (some ⟨cg,0,none⟩))) (tc tq:TypeId) (hc:w.heap[4]? = some (.cells (ints .u64 QaQ) tc)) (hq:w.heap[3]? = some (.cells (ints .u64 Qa6) tq)) {cm:Nat} (s0:List Int) (ms:List (Int×List Int)) (hch:ChSt cg cm s0 [0] 1 ms w) :
    Calls Tryd.prog 24 #[.pointer (some ⟨gc,0,none⟩),.int .i64 0,.int .i64 0] w (Ret w (.tuple #[.agg (cat [#[.int .i64 0],ints .u8 (zam 32 0),#[.slice none 0 0]]),.iface 41 (.int .i64 7)])):=by
  have h:=QmQ gc gl len cap lp w hgc hgl_ cg 0 hi hli tc tq hc hq hch 0 (by decide)
  rw [show chkN [0] 1 0=7 by decide] at h
  exact h
set_option maxRecDepth 100000 in
theorem QmA (gb ge ce gc:Nat) (tl:Array Value) (grp:List Int) (hgl:grp.length=32) (w:World) (hgb:w.heap[gb]? = some (.cells (cat [#[.slice (some ⟨ge,0,none⟩) 1 ce],#[.bool false]]) 49)) (hge:w.heap[ge]? = some (.cells (cat [#[.pointer (some ⟨gc,0,none⟩)],ints .u8 grp,#[.int .i64 0],#[.int .i64 1],tl]) 55)) (gl len cap:Nat) (lp:Array Value) (hgc:w.heap[gc]? = some (.cells #[.slice (some ⟨gl,0,none⟩) len cap] 71)) (hgl_:w.heap[gl]? = some (.cells lp 73)) (cg cm:Nat) (hi:0<len) (hli:lp[0]? = some (.pointer (some ⟨cg,0,none⟩))) (s0:List Int) (ms:List (Int×List Int)) (hch:ChSt cg cm s0 [0] 1 ms w) (tc tq:TypeId) (hc:w.heap[4]? = some (.cells (ints .u64 QaQ) tc)) (hq:w.heap[3]? = some (.cells (ints .u64 Qa6) tq)) (fs:List Int) (hfl:fs.length≤1040) (hfb:Qaj fs) (hgrb:Qaj grp) (v:Value) (hst:∀ W,Ext w W→RdK .u8 W.heap.size fs v W) :
    Calls Tryd.prog 9 #[.pointer (some ⟨gb,0,none⟩),.agg (cat [ints .u8 grp,#[.int .i64 0],#[.int .i64 0],#[.int .i64 0],#[v]])] w (Ret w (.tuple #[.slice none 0 0,.iface 41 (.int .i64 7)])):=by
  obtain ⟨a_s,c_s,rfl,-⟩:=id (hst _ (zaY _))
  obtain ⟨xs,hxs⟩:=Qfh grp fs hgl hfl
  refine enter 91 [(0,.pointer (some ⟨gb,0,none⟩)),(1,.agg (cat [ints .u8 (grp),#[.int .i64 0],#[.int .i64 0],#[.int .i64 0],#[.slice a_s fs.length c_s]]))] Tryd.func9 rfl rfl kj rfl ?_
  refine wp_seq_k fun K7 hK7=>?_
  refine Qad ?_
  refine Qam (cat [ints .u8 (grp),#[.int .i64 0],#[.int .i64 0],#[.int .i64 0],#[.slice a_s fs.length c_s]]) 35 3 rfl kj kj fun g8 W1 l8 e1 r8_1=>?_
  have x1:Ext w W1:=zbb (zaY w) e1
  have b8:w.heap.size≤g8:=qT (zaY w).size l8
  refine Qaa (.slice none 0 0) 4 rfl kj kj ?_
  refine Qaa (.nilIface) 5 rfl kj kj ?_
  refine Qag ?_
  refine hK7 _ _ ?_
  refine wp_seq_k fun K9 hK9=>?_
  refine wp_seq_k fun K10 hK10=>?_
  refine Qad ?_
  refine Qaa (.pointer (some ⟨gb,0,none⟩)) 14 rfl kj kj ?_
  have r1_1:=(Qab hgb e1)
  refine Qat (.pointer (some ⟨ge,0,none⟩)) 16 #[.pointer (some ⟨gb,0,none⟩)] 15 rfl kj kj (QeN gb ge ce gc tl grp hgl _ r1_1) fun W2 e2=>?_
  have x2:Ext w W2:=zbb x1 e2
  refine Qaa (.bool false) 16 rfl kj kj ?_
  refine Qag ?_
  refine hK10 _ _ ?_
  refine cond_false kj ?_
  refine wp_skip ?_
  refine hK9 _ _ ?_
  refine wp_seq_k fun K11 hK11=>?_
  refine wp_seq_k fun K12 hK12=>?_
  refine Qad ?_
  have r8_2:=(Qab r8_1 e2)
  refine Qaa (.agg (cat [ints .u8 (grp),#[.int .i64 0],#[.int .i64 0],#[.int .i64 0],#[.slice a_s fs.length c_s]])) 19 rfl kj (Qao 35 _ g8 35 _ _ r8_2 rfl kj kj (isz (n:=36) kj (by rw [Qac,Qac,Qac,Qac,Qac]; simp only [qS,cat,((Qap _ _).trans hgl)]; rfl))) ?_
  refine Qav (fun v W'=>(Wr.PutR W2.heap.size (some xs)) v W'∧Ext W2 W') 22 #[.agg (cat [ints .u8 (grp),#[.int .i64 0],#[.int .i64 0],#[.int .i64 0],#[.slice a_s fs.length c_s]])] 20 rfl kj kj ((Wr.PutPacket_S grp 0 0 0 fs a_s c_s _ hgl hgrb (by omega) hfb (hst _ x2) xs hxs).mono (by rintro e w' ⟨v,rfl,e1,hv⟩; exact ⟨v,rfl,hv,e1⟩)) fun vv14 W3 hh14=>?_
  obtain ⟨hv14,e3⟩:=hh14
  have x3:Ext w W3:=zbb x2 e3
  obtain ⟨pu13,rfl,hpu13⟩:=hv14
  refine Qaa (.tuple #[pu13,.nilIface]) 18 rfl kj kj ?_
  refine Qaa (pu13) 21 rfl kj kj ?_
  refine Qaa (.nilIface) 22 rfl kj kj ?_
  refine Qaa (pu13) 6 rfl kj kj ?_
  refine Qaa (.nilIface) 7 rfl kj kj ?_
  refine Qag ?_
  refine hK12 _ _ ?_
  refine wp_seq_k fun K15 hK15=>?_
  refine Qad ?_
  refine Qaa (.nilIface) 23 rfl kj kj ?_
  refine Qaa (.bool false) 24 rfl kj kj ?_
  refine Qag ?_
  refine hK15 _ _ ?_
  refine cond_false kj ?_
  refine wp_skip ?_
  refine hK11 _ _ ?_
  refine wp_seq_k fun K16 hK16=>?_
  refine wp_seq_k fun K17 hK17=>?_
  refine Qad ?_
  refine Qaa (.pointer (some ⟨g8,35,none⟩)) 26 rfl kj kj ?_
  have r8_3:=(Qab r8_2 e3)
  refine Qaa (.slice a_s fs.length c_s) 27 rfl kj (Qae 33 _ g8 35 35 _ (.slice a_s fs.length c_s) _ r8_3 rfl kj (Qaq [ints .u8 (grp),#[.int .i64 0],#[.int .i64 0],#[.int .i64 0]] [#[.slice a_s fs.length c_s]] [] 35 (by rw [Qac,Qac,Qac,Qac]; simp only [qS,cat,((Qap _ _).trans hgl)]; rfl) 0 _ rfl) kj) ?_
  refine Qaa (.int .i64 ((fs.length:Nat):Int)) 28 rfl kj kj ?_
  refine Qaa (.bool false) 29 rfl kj (Qai (u:=.bool (decide (((fs.length:Nat):Int)>1040))) kj (congrArg zau (decide_eq_false (by omega)))) ?_
  refine Qag ?_
  refine hK17 _ _ ?_
  refine cond_false kj ?_
  refine wp_skip ?_
  refine hK16 _ _ ?_
  refine wp_seq_k fun K18 hK18=>?_
  refine Qad ?_
  refine Qaa (.pointer (some ⟨gb,0,none⟩)) 31 rfl kj kj ?_
  refine Qaa (.agg (cat [ints .u8 (grp),#[.int .i64 0],#[.int .i64 0],#[.int .i64 0],#[.slice a_s fs.length c_s]])) 32 rfl kj (Qao 35 _ g8 35 _ _ r8_3 rfl kj kj (isz (n:=36) kj (by rw [Qac,Qac,Qac,Qac,Qac]; simp only [qS,cat,((Qap _ _).trans hgl)]; rfl))) ?_
  have r1_2:=(Qab r1_1 e2)
  have r1_3:=(Qab r1_2 e3)
  have r2_1:=(Qab hge e1)
  have r2_2:=(Qab r2_1 e2)
  have r2_3:=(Qab r2_2 e3)
  refine Qat (.pointer (some ⟨ge,0,none⟩)) 23 #[.pointer (some ⟨gb,0,none⟩),.agg (cat [ints .u8 (grp),#[.int .i64 0],#[.int .i64 0],#[.int .i64 0],#[.slice a_s fs.length c_s]])] 33 rfl kj kj (of_1 gb ge ce gc tl grp hgl _ r1_3 r2_3 a_s _ c_s) fun W4 e4=>?_
  have x4:Ext w W4:=zbb x3 e4
  refine Qaa (.pointer (some ⟨ge,0,none⟩)) 8 rfl kj kj ?_
  refine Qag ?_
  refine hK18 _ _ ?_
  refine wp_seq_k fun K19 hK19=>?_
  refine wp_seq_k fun K20 hK20=>?_
  refine Qad ?_
  refine Qaa (.pointer (some ⟨ge,0,none⟩)) 34 rfl kj kj ?_
  refine Qaa (.bool false) 35 rfl kj kj ?_
  refine Qag ?_
  refine hK20 _ _ ?_
  refine cond_false kj ?_
  refine wp_skip ?_
  refine hK19 _ _ ?_
  refine wp_seq_k fun K21 hK21=>?_
  refine wp_seq_k fun K22 hK22=>?_
  refine QaU 7 [⟨none,[(3,none)]⟩,⟨none,[(37,some 0)]⟩,⟨none,[(8,none)]⟩,⟨none,[(39,some 2)]⟩,⟨none,[(40,some 3)]⟩,⟨none,[(41,some 4)]⟩,⟨none,[(38,some 1),(42,some 5)]⟩] kj kj fun F hF=>?_
  refine Qar (.pointer (some ⟨g8,33,none⟩)) kj kj (fun W=>by kernel_rfl) ?_
  have r8_4:=(Qab r8_3 e4)
  refine QaI (.int .i64 0) kj kj (fun W hR=>(Qae 3 _ g8 33 35 _ (.int .i64 0) _ (Qab (Qab r8_4 (Qan _)) hR) rfl kj (Qaq [ints .u8 (grp),#[.int .i64 0]] [#[.int .i64 0]] [#[.int .i64 0],#[.slice a_s fs.length c_s]] 33 (by rw [Qac,Qac]; simp only [qS,cat,((Qap _ _).trans hgl)]; rfl) 0 _ rfl) kj)) ?_
  refine Qar (.pointer (some ⟨ge,0,none⟩)) kj kj (fun W=>by kernel_rfl) ?_
  refine Qar (.pointer (some ⟨ge,0,none⟩)) kj kj (fun W=>by kernel_rfl) ?_
  refine Qar (.pointer (some ⟨ge,34,none⟩)) kj kj (fun W=>by kernel_rfl) ?_
  have r2_4:=(Qab r2_3 e4)
  refine QaI (.int .i64 1) kj kj (fun W hR=>(Qae 3 _ ge 34 55 _ (.int .i64 1) _ (Qab (Qab r2_4 (Qan _)) hR) rfl kj (Qaq [#[.pointer (some ⟨gc,0,none⟩)],ints .u8 (grp),#[.int .i64 0]] [#[.int .i64 1]] [tl] 34 (by rw [Qac,Qac,Qac]; simp only [qS,cat,((Qap _ _).trans hgl)]; rfl) 0 _ rfl) kj)) ?_
  refine Qar (.bool false) kj kj (fun W=>by kernel_rfl) ?_
  refine Qbd (hF _ kj fun W5 e5=>?_)
  simp only [ups,up,Kn.val,za2,za3,za4,za5,zax,za6]
  clear hF
  have x5:Ext w W5:=zbb x4 e5
  refine Qag ?_
  refine hK22 _ _ ?_
  refine cond_false kj ?_
  refine wp_skip ?_
  refine hK21 _ _ ?_
  refine wp_seq_k fun K23 hK23=>?_
  refine QbS (fun W=>True) [⟨none,[(8,none)]⟩,⟨none,[(46,some 0)]⟩,⟨none,[(47,some 1)]⟩,⟨none,[(48,some 2)]⟩,⟨none,[(3,none)]⟩,⟨none,[(50,some 4)]⟩,⟨none,[(3,none)]⟩,⟨none,[(52,some 6)]⟩,⟨none,[(49,some 3),(51,some 5),(53,some 7)]⟩,⟨none,[(54,some 8)]⟩,⟨none,[(45,some 9)]⟩,⟨none,[(45,some 9)]⟩,⟨none,[]⟩,⟨none,[(9,some 12),(55,some 10)]⟩,⟨none,[(56,some 11)]⟩] [12] [11,14] kj kj kj (fun W hR=>trivial) fun F hF=>?_
  refine QaX (.pointer (some ⟨ge,0,none⟩)) kj kj rfl (fun W=>by kernel_rfl) ?_
  refine QaX (.pointer (some ⟨ge,0,none⟩)) kj kj rfl (fun W=>by kernel_rfl) ?_
  refine QaX (.pointer (some ⟨ge,0,none⟩)) kj kj rfl (fun W=>by kernel_rfl) ?_
  have r2_5:=(Qab r2_4 e5)
  refine QbT (.pointer (some ⟨gc,0,none⟩)) kj kj kj rfl (fun W hR=>(Qae 53 _ ge 0 55 _ (.pointer (some ⟨gc,0,none⟩)) _ (Qab (Qab r2_5 (Qan _)) hR) rfl kj (Qaq [] [#[.pointer (some ⟨gc,0,none⟩)]] [ints .u8 (grp),#[.int .i64 0],#[.int .i64 1],tl] 0 kj 0 _ rfl) kj)) ?_
  refine QaX (.pointer (some ⟨g8,33,none⟩)) kj kj rfl (fun W=>by kernel_rfl) ?_
  have r8_5:=(Qab r8_4 e5)
  refine QbT (.int .i64 0) kj kj kj rfl (fun W hR=>(Qae 3 _ g8 33 35 _ (.int .i64 0) _ (Qab (Qab r8_5 (Qan _)) hR) rfl kj (Qaq [ints .u8 (grp),#[.int .i64 0]] [#[.int .i64 0]] [#[.int .i64 0],#[.slice a_s fs.length c_s]] 33 (by rw [Qac,Qac]; simp only [qS,cat,((Qap _ _).trans hgl)]; rfl) 0 _ rfl) kj)) ?_
  refine QaX (.pointer (some ⟨g8,34,none⟩)) kj kj rfl (fun W=>by kernel_rfl) ?_
  refine QbT (.int .i64 0) kj kj kj rfl (fun W hR=>(Qae 3 _ g8 34 35 _ (.int .i64 0) _ (Qab (Qab r8_5 (Qan _)) hR) rfl kj (Qaq [ints .u8 (grp),#[.int .i64 0],#[.int .i64 0]] [#[.int .i64 0]] [#[.slice a_s fs.length c_s]] 34 (by rw [Qac,Qac,Qac]; simp only [qS,cat,((Qap _ _).trans hgl)]; rfl) 0 _ rfl) kj)) ?_
  have r3_1:=(Qab hgc e1)
  have r3_2:=(Qab r3_1 e2)
  have r3_3:=(Qab r3_2 e3)
  have r3_4:=(Qab r3_3 e4)
  have r3_5:=(Qab r3_4 e5)
  have r4_1:=(Qab hgl_ e1)
  have r4_2:=(Qab r4_1 e2)
  have r4_3:=(Qab r4_2 e3)
  have r4_4:=(Qab r4_3 e4)
  have r4_5:=(Qab r4_4 e5)
  have r5_1:=(Qab hc e1)
  have r5_2:=(Qab r5_1 e2)
  have r5_3:=(Qab r5_2 e3)
  have r5_4:=(Qab r5_3 e4)
  have r5_5:=(Qab r5_4 e5)
  have r6_1:=(Qab hq e1)
  have r6_2:=(Qab r6_1 e2)
  have r6_3:=(Qab r6_2 e3)
  have r6_4:=(Qab r6_3 e4)
  have r6_5:=(Qab r6_4 e5)
  refine QkM (.tuple #[.agg (cat [#[.int .i64 0],ints .u8 (zam 32 0),#[.slice none 0 0]]),.iface 41 (.int .i64 7)]) 24 #[.pointer (some ⟨gc,0,none⟩),.int .i64 0,.int .i64 0] kj kj kj rfl (fun W=>by kernel_rfl) (fun W hR=>(fun W hR=>Qn9 gc gl len cap lp W (Qab (Qab r3_5 (Qan _)) hR) (Qab (Qab r4_5 (Qan _)) hR) cg hi hli tc tq (Qab (Qab r5_5 (Qan _)) hR) (Qab (Qab r6_5 (Qan _)) hR) s0 ms (hch.ext (zaZ (zaZ x5 (Qan _)) hR))) W hR) ?_
  refine QaX (.tuple #[.agg (cat [#[.int .i64 0],ints .u8 (zam 32 0),#[.slice none 0 0]]),.iface 41 (.int .i64 7)]) kj kj rfl (fun W=>by kernel_rfl) ?_
  refine QaX (.agg (cat [#[.int .i64 0],ints .u8 (zam 32 0),#[.slice none 0 0]])) kj kj rfl (fun W=>by kernel_rfl) ?_
  refine QaX (.iface 41 (.int .i64 7)) kj kj rfl (fun W=>by kernel_rfl) ?_
  refine Qns (cat [#[.int .i64 0],ints .u8 (zam 32 0),#[.slice none 0 0]]) 60 kj kj (qR _) kj rfl (fun W=>by kernel_rfl) ?_
  refine Qcp rfl ?_
  refine QaX (.iface 41 (.int .i64 7)) kj kj rfl (fun W=>by kernel_rfl) ?_
  refine Qg2 (hF _ kj fun W6 e6=>?_)
  simp only [zax,za6,fins,up]
  intro g24 l24 r24_6 n24
  have b24:w.heap.size≤g24:=qT x5.size l24
  clear hF
  have x6:Ext w W6:=zbb x5 e6
  refine Qcj _ g24 _ (cat [#[.int .i64 0],ints .u8 (zam 32 0),#[.slice none 0 0]]) 60 r24_6 rfl (Qal 60 _ _ g24 60 _ _ r24_6 rfl kj kj (isz (n:=34) kj (by rw [Qac,Qac,Qac]; simp only [qS,cat,((Qap _ _).trans (qZ (n:=32)))]; rfl)) (eqsz (n:=34) (by rw [Qac,Qac,Qac]; simp only [qS,cat,((Qap _ _).trans (qZ (n:=32)))]; rfl) (by rw [Qac,Qac,Qac]; simp only [qS,cat,((Qap _ _).trans (qZ (n:=32)))]; rfl)) (Qbu _ (by intro a ha; simp only [za7,zal,or_false] at ha; rcases ha with rfl | rfl | rfl; exact (Qa9 _ rfl); exact (Qay _ _); exact (Qa9 _ rfl)))) (fun W hp=>trivial) fun W7 p7 r24_7=>?_
  have x7:Ext w W7:=Puts.ext p7 x6 b24
  refine Qe6 ?_
  refine hK23 _ _ ?_
  refine wp_seq_k fun K25 hK25=>?_
  refine wp_seq_k fun K26 hK26=>?_
  refine Qad ?_
  refine Qaa (.iface 41 (.int .i64 7)) 57 rfl kj kj ?_
  refine Qaa (.bool true) 58 rfl kj kj ?_
  refine Qag ?_
  refine hK26 _ _ ?_
  refine cond_true kj ?_
  refine wp_seq_k fun K27 hK27=>?_
  refine Qad ?_
  refine Qaa (.iface 41 (.int .i64 7)) 59 rfl kj kj ?_
  refine Qaa (.slice none 0 0) 4 rfl kj kj ?_
  refine Qaa (.iface 41 (.int .i64 7)) 5 rfl kj kj ?_
  refine Qag ?_
  refine hK27 _ _ ?_
  refine wp_ret ?_
  exact (show bodyPost _ _ _ .ret _ _ from ret2 (.slice none 0 0) (.iface 41 (.int .i64 7)) rfl (Qa0 kj) (Qa0 kj) ⟨rfl,x7⟩)
end Pk
end
end Go.Proofs.YtioglfpngaddfaaDoor
