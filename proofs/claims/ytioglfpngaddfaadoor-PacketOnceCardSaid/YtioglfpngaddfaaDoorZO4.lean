/- Texts of this claim, joined (O4). -/
import Derived.Test.YtioglfpngaddfaaDoorZO3

set_option linter.unusedVariables false
set_option linter.unusedSimpArgs false
set_option maxHeartbeats 4000000
open Option renaming map_some → zaa
open List renaming mem_singleton → zab, length_append → zac, map_toArray → zag, map_cons → zah, map_nil → zai, foldl_toArray' → zal, not_mem_nil → zan, replicate → zao, map_append → zap, append_assoc → zar, getElem?_append_right → zat, nodup_append → zau, mem_map → zav, mem_iff_getElem? → zaw, length_map → zay, nil_append → za0, getElem?_eq_some_iff → za2, length_nil → za4, mem_append → za6, mem_cons → za7, getElem?_take → zaA, take_succ_cons → zaB, take_zero → zaC, drop_succ_cons → zaD, drop_zero → zaE, cons_append → zaF, range → zaU, getElem?_eq_none → zaV, size_toArray → zaW, range_succ → zaX, countP_append → zaY, countP_singleton → zaZ, getElem?_toArray → zbc, all_eq_true → zbd, mem_range → zbe, mem_cons_of_mem → zbf, mem_cons_self → zbg, take_append_drop → zbh, flatMap_cons → zbi, length_cons → zbj, length_take → zbk, take_append_of_le_length → zbl, getElem?_eq_getElem → zbm, mem_of_getElem? → zbn, length_drop → zbo, length_singleton → zbq
open Go.Sem renaming run_bind → zad, run_pure → zae
open Go.Result renaming andThen_ok → zaf
open Go.Value renaming pointer → zaj, bool → zax, int → zaT, slice → zbp
open Array renaming ext' → zak, getElem?_toList → za3, length_toList → za8, getElem?_eq_none → zaJ, setIfInBounds_comm → zaK, replicate → zaL, ext_getElem? → zba, getD_eq_getD_getElem? → zbb
open Nat renaming add_zero → zam, add_sub_cancel_left → zaq, lt_or_ge → zas, ne_of_lt → zaz, pow_pos → za1, zero_le → za5, zero_add → za9
open Go.Region renaming ready → zaG, wanted → zaH, binds → zaI, noSelect → zaN, free → zaO, noSelect_spec → zaP, free_spec → zaQ
open Go.Code renaming region → zaM
open Go.IntKind renaming u8 → zaR, i64 → zaS
namespace Go.Proofs.YtioglfpngaddfaaDoor
open Rely.Ext renaming refl → zbr, trans → zbs
open Auto.Puts renaming row → zbt
open Auto.Ext renaming tr → zbu
open Own.ExtB renaming refl → zbv, puts → zbw, row → zbx
open Auto.OwnN renaming base → zby, rd → zbz
open Auto.Qaf renaming refl → zb0, row → zb1, step → zb2, keeps → zb3
section
namespace Cn
open Go Go.RowKit
open Rely Auto Own Sha
open Go.Proofs.YtioglfpngaddfaaDoor
def OwnR (T : TypeId) (base:Nat) (vs:List Value) (v:Value) (W:World):Prop:=W.ownsRow base T 1 v vs.length vs∧vs.length≤maxLen
theorem OwnR.keep {T : TypeId} {base:Nat} {vs:List Value} {v:Value} {W W':World} (h:OwnR T base vs v W) (hk:∀ g,v.ownBlock=some g→W'.heap[g]? = W.heap[g]?):OwnR T base vs v W':=by
  obtain ⟨⟨h1,h2⟩,hm⟩:=h
  refine ⟨⟨h1,?_⟩,hm⟩
  rcases h2 with h2 | ⟨g,c,cur,rfl,q2,q3,q4,q5,q6,q7⟩
  · exact .inl h2
  · exact .inr ⟨g,c,cur,rfl,q2,(hk g rfl).trans q3,q4,q5,q6,q7⟩
theorem OwnR.at {T : TypeId} {base:Nat} {vs:List Value} {v:Value} {W:World} (h:OwnR T base vs v W) {g:Nat} (hg:v.ownBlock=some g):base≤g∧∃ cur,W.heap[g]? = some (.cells cur T):=by
  rcases h.1.2 with ⟨rfl,_⟩ | ⟨g',c,cur,rfl,q2,q3,_⟩
  · cases hg
  · obtain rfl:g'=g:=Option.some.inj hg
    exact ⟨q2,cur,q3⟩
theorem Qh8 {W : World} {g:Nat} {c c':Array Value} {T T':TypeId} (h:W.heap[g]? = some (.cells c T)) (h':W.heap[g]? = some (.cells c' T')) (hne:T≠T'):False:=by
  rw [h] at h'
  simp only [Option.some.injEq,Obj.cells.injEq] at h'
  exact hne h'.2.1
theorem QoR {P : Program} {T:TypeId} {z:Value} {b:Nat} (hi:(P.info? T).map (fun i=>(i.zero,i.size,i.bytes))=some (some z,1,b)):∃ i,P.info? T=some i∧i.zero=some z∧i.size=1∧i.bytes=b:=by
  cases hq:P.info? T with
  | none=>rw [hq] at hi; cases hi
  | some i =>
    rw [hq] at hi
    simp only [zaa,Option.some.injEq,Prod.mk.injEq] at hi
    exact ⟨i,rfl,hi.1,hi.2.1,hi.2.2⟩
theorem QkZ {P : Program} {ρ:Operand→Value} {o:Oper} {W:World} {T:TypeId} (base b:Nat) (s x:Operand) (t:TypeId) (ho:o.op=.call { callee:=.builtin .append,args:=#[s,x],argTypes:=#[t,t] })
    (ht:P.underlying t=some (.slice T)) (z:Value) (hi:(P.info? T).map (fun i=>(i.zero,i.size,i.bytes))=some (some z,1,b)) (hz:z.cells.size=1) (hb:b≤100) {v y:Value} {vs:List Value} {gy c:Nat} {Ty:TypeId}
    (hs:ρ s=v) (hx:ρ x=.slice (some ⟨gy,0,none⟩) 1 c) (ry:W.heap[gy]? = some (.cells #[y] Ty)) (h1:y.oneCell'=true)
    (h:OwnR T base vs v W) (hn:vs.length≤100000) (hV:base≤W.heap.size) :
    ∃ u W',(execOp ρ o).run P W=.ok (.value u) W'∧OwnR T base (vs++[y]) u W'∧W.grownBy W' v.ownBlock:=by
  obtain ⟨i,hq,hi1,hi2,hi3⟩:=QoR hi
  obtain ⟨v',W',hr,h2,h3,_,h5⟩:=run_append_own_at (P:=P) W base t o.type T i z 1 b ht hq hi1 hi2 hi3 hz (by omega) v vs.length vs h.1 ⟨gy,0,none⟩ 1 c [y] (by simp)
    (fun j u hu=>by
      cases j with
      | zero =>
        simp only [List.getElem?_cons_zero,Option.some.injEq] at hu
        subst hu
        rw [WideShapes.add_plain]
        exact Qdb ry rfl
      | succ j=>simp at hu) (fun u hu=>by rw [zab.1 hu]; exact h1) (by simp only [maxLen]; omega) (by
        have:(vs.length+1)*b≤100001*100:=Nat.mul_le_mul (by omega) hb
        omega) hV
  refine ⟨v',W',?_,⟨by rw [zac]; exact h2,by rw [zac]; simp only [maxLen]; show _+1≤_; omega⟩,h3⟩
  unfold execOp
  simp only [ho,resolve,invoke,builtin,zad,zae,zaf,zag,zah,zai,hs,hx,hr]
structure GP (base gc : Nat) (w W : World) : Prop where
  os:W.os=w.os
  tape:W.tape=w.tape
  output:W.output=w.output
  size:w.heap.size≤W.heap.size
  block:∀ k,k<w.heap.size→k≠gc→(k<base∨∀ cs fr,w.heap[k]?≠some (.cells cs 73 fr))→W.heap[k]? = w.heap[k]?
theorem GP.refl (base gc:Nat) (w:World):GP base gc w w:=⟨rfl,rfl,rfl,qR _,fun _ _ _ _=>rfl⟩
theorem GP.trans {base gc:Nat} {u w W:World} (h:GP base gc u w) (k:GP base gc w W):GP base gc u W :=
  ⟨k.os.trans h.os,k.tape.trans h.tape,k.output.trans h.output,qT h.size k.size,fun i hi hn hc=>by
    have e:=h.block i hi hn hc
    refine (k.block i (qL hi h.size) hn ?_).trans e
    rcases hc with hc | hc
    · exact .inl hc
    · exact .inr fun cs fr=>by rw [e]; exact hc cs fr⟩
theorem GP.of_ext {base gc:Nat} {w W:World} (e:Ext w W):GP base gc w W:=⟨e.os,e.tape,e.output,e.size,fun k hk _ _=>e.block k hk⟩
theorem GP.ext {base gc:Nat} {u w W:World} (h:GP base gc u w) (e:Ext w W):GP base gc u W:=h.trans (GP.of_ext e)
theorem GP.putg {base gc:Nat} {u w W:World} (h:GP base gc u w) (p:Puts w gc W):GP base gc u W :=
  ⟨p.1.trans h.os,p.2.1.trans h.tape,p.2.2.1.trans h.output,by have:=h.size; have:=p.2.2.2.1; omega,fun k hk hn hc=>(p.2.2.2.2 k hn).trans (h.block k hk hn hc)⟩
theorem GP.row {base gc g:Nat} {w W:World} {c:Array Value} {T:TypeId} (h:GP base gc w W) (r:w.heap[g]? = some (.cells c T)) (hT:T≠73) (hn:g≠gc):W.heap[g]? = some (.cells c T) :=
  (h.block g (Qaq r) hn (.inr fun cs fr e=>by rw [r] at e; simp only [Option.some.injEq,Obj.cells.injEq] at e; exact hT e.2.1)).trans r
theorem GP.low {base gc g:Nat} {w W:World} {ob:Obj} (h:GP base gc w W) (r:w.heap[g]? = some ob) (hb:g<base) (hn:g≠gc):W.heap[g]? = some ob:=(h.block g (Qaq r) hn (.inl hb)).trans r
theorem GP.grown {base gc:Nat} {w W:World} {vs:List Value} {v:Value} (h:w.grownBy W v.ownBlock) (hv:OwnR 73 base vs v w):GP base gc w W :=
  ⟨h.os,h.tape,h.output,h.size,fun k hk hn hc=>h.block k hk fun e=>by
    obtain ⟨h1,cur,h2⟩:=hv.at e.symm
    rcases hc with hc | hc
    · omega
    · exact hc _ _ h2⟩
theorem ChSt.gp {base gc g mg:Nat} {s0 ts:List Int} {pl:Nat} {ms:List (Int×List Int)} {W W':World} (h:ChSt g mg s0 ts pl ms W) (q:GP base gc W W') (hg:g≠gc) (hm:mg≠gc):ChSt g mg s0 ts pl ms W':=by
  obtain ⟨B,h1,h2⟩:=h.row
  obtain ⟨es,c,h3,-⟩:=id h.mp
  exact h.keep ((q.row h2 (by decide) hg).trans h2.symm) (q.block mg (Qaq h3) hm (.inr fun cs fr e=>by rw [h3] at e; cases e))
def GrS (base gc:Nat) (cs:List (Nat×Nat)) (W:World):Prop:=∃ v,W.heap[gc]? = some (.cells #[v] 71)∧OwnR 73 base (cs.map fun p=>zaj (some ⟨p.1,0,none⟩)) v W
theorem GrS.ext {base gc:Nat} {cs:List (Nat×Nat)} {W W':World} (h:GrS base gc cs W) (e:Ext W W'):GrS base gc cs W':=by
  obtain ⟨v,h1,h2⟩:=h
  exact ⟨v,Qaa h1 e,h2.keep fun g hg=>by obtain ⟨-,cur,hc⟩:=h2.at hg; exact e.block g (Qaq hc)⟩
def lftV (sec : List Int):List Int:=Qcg sec (strB QkU)
def rgtV (sec : List Int):List Int:=Qcg sec (strB QhF)
attribute [irreducible] lftV rgtV
theorem Qls (sec : List Int):(lftV sec).length=32:=by unfold lftV; exact QdQ _ _
theorem Qla (sec : List Int):(rgtV sec).length=32:=by unfold rgtV; exact QdQ _ _
theorem QiX (sec : List Int):Qai (lftV sec):=by unfold lftV; exact Qdk _ _
theorem QiK (sec : List Int):Qai (rgtV sec):=by unfold rgtV; exact Qdk _ _
def QbI (sec : List Int):Nat→Nat→List Int
  | 0,_=>sec
  | k+1,j=>if j<2^k then QbI (lftV sec) k j else QbI (rgtV sec) k (j-2^k)
def lvOk : Nat→Int→Bool
  | 0,x=>decide (0≤x)&&decide (x≤62)&&decide (Seat.kidL x<0)
  | k+1,x=>decide (0≤x)&&decide (x≤62)&&decide (0≤Seat.kidL x)&&lvOk k (Seat.kidL x)&&lvOk k (Seat.kidR x)
theorem QjW : ∀ k:Fin 6,lvOk k.val (((2^k.val:Nat):Int)-1)=true:=by decide +kernel
theorem QhZ {k : Nat} {x:Int} (h:lvOk k x=true):0≤x∧x≤62:=by
  cases k <;> (unfold lvOk at h; simp only [Bool.and_eq_true,decide_eq_true_eq] at h)
  · exact h.1
  · exact h.1.1.1
def GrR (base gc:Nat) (cs:List (Nat×Nat)) (sec:List Int) (k:Nat) (W W':World):Prop:=GP base gc W W'∧∃ ns:List (Nat×Nat),ns.length=2^k∧GrS base gc (cs++ns) W'∧(∀ j p,ns[j]? = some p→ChSt p.1 p.2 (QbI sec k j) [] 0 [] W'∧W.heap.size≤p.1∧W.heap.size≤p.2)∧(ns.map Prod.fst).Nodup∧(ns.map Prod.snd).Nodup
theorem Qkw (pl : Nat→Option (Nat×Nat)) (i off n:Nat) (v:Value) (pre:List (Array Value)) (mid:Array Value) (post:List (Array Value)) (ps:List (Nat×Value)) (h1:pl i=some (off,n)) (hoff:(cat pre).size=off) (hm:mid.size=n) (hv:v.cells.size=n) :
    Instr.fill pl (cat (pre++([mid]++post))) ((i,v)::ps)=Instr.fill pl (cat (pre++([v.cells]++post))) ps:=by
  have hz:(v.cells.zipIdx.foldl (fun cs (x:Value×Nat)=>cs.setIfInBounds (off+x.2) x.1) (cat (pre++([mid]++post))))=cat (pre++([v.cells]++post)):=by
    have e1:v.cells.zipIdx=(v.cells.toList.zipIdx 0).toArray:=by
      apply zak
      simp
    rw [e1,zal,QcK]
    · rw [zam]
      have:=QdF pre [mid] [v.cells] post off hoff (by show (cat [v.cells]).size=(cat [mid]).size; simp [cat,hm,hv])
      rw [show (cat [v.cells]).toList=v.cells.toList by simp [cat]] at this
      exact this
    · rfl
  rw [Instr.fill,h1]
  simp only
  have hs:(cat (pre++([mid]++post))).size=off+(n+(cat post).size):=by rw [QaD,qS,hoff]; show off+(cat (mid::post)).size=_; rw [Qac,qS,hm]
  rw [if_neg (by rw [hv,hs]; simp)]
  show Instr.fill pl (v.cells.zipIdx.foldl (fun cs (x:Value×Nat)=>cs.setIfInBounds (off+x.2) x.1) (cat (pre++([mid]++post)))) ps=_
  rw [hz]
theorem QiJ {P : Program} {ρ:Operand→Value} {o:Oper} {w:World} (t:TypeId) (parts:Array (Nat×Operand)) (z:Value) (places:Array (Nat×Nat)) (r zc:Array Value) (ps:List (Nat×Value)) (ho:o.op=.build t parts) (hv:(parts.map fun (i,x)=>(i,ρ x)).toList=ps) (hzc:z=.agg zc) (hf:Instr.fill (fun i=>places[i]?) zc ps=some r)
    (hz:(zeroValue t).run P w=.ok z w) (hu:P.underlying t=some (.struct (P.fieldsOf t))) (hm:((P.fieldsOf t).mapM fun f=>do pure (f.offset,←sizeOf f.type):Sem (Array (Nat×Nat))).run P w=.ok places w) :
    (execOp ρ o).run P w=.ok (.value (.agg r)) w:=by
  subst hzc
  rw [←hv] at hf
  have hB:(Instr.build t (parts.map fun (i,x)=>(i,ρ x))).run P w=.ok (.agg r) w:=by
    unfold Instr.build
    rw [zad,hz,zaf,zad,run_underlying hu w,zaf]
    show (Sem.run P _ w)=_
    rw [zad,hm,zaf]
    simp only [show (Value.agg zc).cells=zc from rfl,hf]
    rfl
  unfold execOp
  simp only [ho,zad,hB,zaf,zae]
theorem QgN {base : Nat} {vs:List Value} {v:Value} {W W':World} {g:Nat} {c:Array Value} {T:TypeId} (h:W.grownBy W' v.ownBlock) (hv:OwnR 73 base vs v W) (r:W.heap[g]? = some (.cells c T)) (hT:T≠73):W'.heap[g]? = some (.cells c T) :=
  (h.block g (Qaq r) fun e=>by obtain ⟨-,cur,h2⟩:=hv.at e.symm; exact Qh8 r h2 hT).trans r
theorem QlE {g gm:Nat} {sec:List Int} {W:World} (hl:sec.length=32) (hb:Qai sec) (r:W.heap[g]? = some (.cells (cat [#[.int .i64 0],#[.int .u64 0],ints .u8 (sec),#[.int .i64 0],#[.map (some gm)]]) 82)) (hm:W.heap[gm]? = some (.map #[] 0)):ChSt g gm sec [] 0 [] W :=
  ⟨hl,hb,⟨0,Qkf,r⟩,⟨_,_,hm,QmH 0⟩,⟨fun p hp=>absurd hp zan,fun k hk _ _=>absurd hk (Nat.not_lt_zero _)⟩⟩
theorem QmW (pl : Nat→Option (Nat×Nat)) (h1:pl 1=some (2,32)) (h3:pl 3=some (35,1)) (sec:List Int) (hl:sec.length=32) (gm:Nat):Instr.fill pl (cat [#[.int .i64 0],#[.int .u64 0],ints .u8 (zao 32 0),#[.int .i64 0],#[.map none]]) [(1,.agg (ints .u8 sec)),(3,.map (some gm))]=some (cat [#[.int .i64 0],#[.int .u64 0],ints .u8 sec,#[.int .i64 0],#[.map (some gm)]]):=by
  refine (Qkw pl 1 2 32 (.agg (ints .u8 sec)) [#[.int .i64 0],#[.int .u64 0]] (ints .u8 (zao 32 0)) [#[.int .i64 0],#[.map none]] [(3,.map (some gm))] h1 rfl (by rw [Qat]; rfl) ((Qat _ _).trans hl)).trans ?_
  refine (Qkw pl 3 35 1 (.map (some gm)) [#[.int .i64 0],#[.int .u64 0],ints .u8 sec,#[.int .i64 0]] #[.map none] [] [] h3 (by rw [Qac,Qac,Qac,Qac]; simp only [qS,cat,(Qat _ _).trans hl]; rfl) rfl rfl).trans rfl
theorem OwnR.sl {T : TypeId} {base:Nat} {vs:List Value} {v:Value} {W:World} (h:OwnR T base vs v W):∃ a n c,v=.slice a n c:=by
  rcases h.1.2 with ⟨rfl,_⟩ | ⟨g,c,cur,rfl,_⟩
  · exact ⟨_,_,_,rfl⟩
  · exact ⟨_,_,_,rfl⟩
theorem appG {P : Program} {ρ:Operand→Value} {o:Oper} {W:World} {base gc:Nat} {s x:Operand} {t:TypeId} {v y:Value} {vs:List Value} {gy c g1 g2:Nat} {Ty T1 T2:TypeId} {c1 c2:Array Value} (ho:o.op=.call { callee:=.builtin .append,args:=#[s,x],argTypes:=#[t,t] })
    (ht:P.underlying t=some (.slice 73)) (hi:(P.info? 73).map (fun i=>(i.zero,i.size,i.bytes))=some (some (.pointer none),1,8))
    (hs:ρ s=v) (hx:ρ x=.slice (some ⟨gy,0,none⟩) 1 c) (ry:W.heap[gy]? = some (.cells #[y] Ty)) (h1:y.oneCell'=true)
    (h:OwnR 73 base vs v W) (hn:vs.length≤100000) (hV:base≤W.heap.size) (r1:W.heap[g1]? = some (.cells c1 T1)) (n1:T1≠73) (r2:W.heap[g2]? = some (.cells c2 T2)) (n2:T2≠73) :
    ∃ u W',(execOp ρ o).run P W=.ok (.value u) W'∧OwnR 73 base (vs++[y]) u W'∧GP base gc W W'∧W'.heap[g1]? = some (.cells c1 T1)∧W'.heap[g2]? = some (.cells c2 T2):=by
  obtain ⟨u,W',q1,q2,q3⟩:=QkZ (P:=P) base 8 s x t ho ht (.pointer none) hi rfl (by decide) hs hx ry h1 h hn hV
  exact ⟨u,W',q1,q2,GP.grown q3 h,QgN q3 h r1 n1,QgN q3 h r2 n2⟩
theorem gr0 {base gc g gm:Nat} {cs:List (Nat×Nat)} {sec:List Int} {w W2 W3:World} {v0 u1:Value} (x:GP base gc w W2) (r0:W2.heap[gc]? = some (.cells #[v0] 71)) (hv:OwnR 73 base ((cs.map fun p=>zaj (some ⟨p.1,0,none⟩))++[.pointer (some ⟨g,0,none⟩)]) u1 W2)
    (hc:ChSt g gm sec [] 0 [] W2) (p:Puts W2 gc W3) (r:W3.heap[gc]? = some (.cells #[u1] 71)) (lg:w.heap.size≤g) (lm:w.heap.size≤gm) (hl:gc<w.heap.size):GrR base gc cs sec 0 w W3:=by
  have hk:∀ k,k≠gc→W3.heap[k]? = W2.heap[k]?:=fun k hn=>p.2.2.2.2 k hn
  refine ⟨GP.putg x p,[(g,gm)],rfl,⟨u1,r,?_⟩,?_,by simp,by simp⟩
  · rw [zap]
    exact hv.keep fun k hk'=>hk k fun e=>by obtain ⟨-,cur,h2⟩:=hv.at hk'; rw [e] at h2; exact Qh8 r0 h2 (by decide)
  · intro j q hj
    cases j with
    | succ j=>cases hj
    | zero =>
      obtain rfl:(g,gm)=q:=Option.some.inj hj
      exact ⟨hc.keep (hk g (by show g≠gc; omega)) (hk gm (by show gm≠gc; omega)),lg,lm⟩
theorem QmN {sec : List Int} {k j:Nat} (h:j<2^k):QbI sec (k+1) j=QbI (lftV sec) k j:=by rw [QbI,if_pos h]
theorem QmM {sec : List Int} {k j:Nat}:QbI sec (k+1) (2^k+j)=QbI (rgtV sec) k j:=by rw [QbI,if_neg (by omega),zaq]
theorem grS {base gc k:Nat} {cs n1:List (Nat×Nat)} {sec:List Int} {w W1 W2 W3 W4:World} (x:GP base gc w W1) (q1:GP base gc W1 W2) (l1:n1.length=2^k) (c1:∀ j p,n1[j]? = some p→ChSt p.1 p.2 (QbI (lftV sec) k j) [] 0 [] W2∧W1.heap.size≤p.1∧W1.heap.size≤p.2) (d1:(n1.map Prod.fst).Nodup) (d2:(n1.map Prod.snd).Nodup) (e:GP base gc W2 W3) (h:GrR base gc (cs++n1) (rgtV sec) k W3 W4) (hl:gc<w.heap.size):GrR base gc cs sec (k+1) w W4:=by
  obtain ⟨q2,n2,l2,g2,c2,d3,d4⟩:=h
  refine ⟨(x.trans q1).trans (e.trans q2),n1++n2,by rw [zac,l1,l2,Nat.pow_succ]; omega,by rw [←zar]; exact g2,?_,?_,?_⟩
  · intro j p hj
    rcases zas j (2^k) with hjk | hjk
    · rw [List.getElem?_append_left (by omega)] at hj
      obtain ⟨a1,a2,a3⟩:=c1 j p hj
      have:=x.size
      rw [QmN hjk]
      exact ⟨a1.gp (e.trans q2) (by omega) (by omega),by omega,by omega⟩
    · rw [zat (by omega),l1] at hj
      obtain ⟨a1,a2,a3⟩:=c2 _ p hj
      have:=x.size
      have:=q1.size
      have:=e.size
      rw [show j=2^k+(j-2^k) by omega,QmM]
      exact ⟨a1,by omega,by omega⟩
  · rw [zap]
    refine zau.2 ⟨d1,d3,fun a ha b hb he=>?_⟩
    obtain ⟨p,hp,rfl⟩:=zav.1 ha
    obtain ⟨q,hq,rfl⟩:=zav.1 hb
    obtain ⟨i,hi⟩:=zaw.1 hp
    obtain ⟨j,hj⟩:=zaw.1 hq
    have h1:=(c1 i p hi).1.glt
    have h2:=(c2 j q hj).2.1
    have:=e.size
    omega
  · rw [zap]
    refine zau.2 ⟨d2,d4,fun a ha b hb he=>?_⟩
    obtain ⟨p,hp,rfl⟩:=zav.1 ha
    obtain ⟨q,hq,rfl⟩:=zav.1 hb
    obtain ⟨i,hi⟩:=zaw.1 hp
    obtain ⟨j,hj⟩:=zaw.1 hq
    have h1:=(c1 i p hi).1.mp.lt
    have h2:=(c2 j q hj).2.2
    have:=e.size
    omega
theorem Qn6 {base gc:Nat} {w W:World} (h:Seat.TabAt w) (q:GP base gc w W) (hb:2<base) (hn:2≠gc):Seat.TabAt W :=
  ⟨qL h.1 q.size,fun j hj=>by rw [World.cell?_of_block (q.block _ h.1 hn (.inl hb))]; exact h.2 j hj⟩
theorem Qmm (x : Int) (hx:0≤x∧x≤62) (W:World) (hT:Seat.TabAt W):Calls Tryd.prog 42 #[.int .i64 x] W (Ret W (.tuple #[.int .i64 (Seat.kidL x),.int .i64 (Seat.kidR x)])) :=
  (Seat.children x ⟨by omega,by omega⟩ W hT).mono fun e W' hh=>⟨hh.1,hh.2▸zbr _⟩
theorem Qoe (base gc:Nat) (cs:List (Nat×Nat)) (sec:List Int) (x:Int) (tc tq:TypeId) (w:World) (hc:w.heap[4]? = some (.cells (ints .u64 QaR) tc)) (hq:w.heap[3]? = some (.cells (ints .u64 Qa9) tq)) (hT:Seat.TabAt w) (hsl:sec.length=32) (hsb:Qai sec) (hb:base≤w.heap.size) (hcn:cs.length≤1000) (hgs:GrS base gc cs w) (hlv:lvOk 0 x=true):Calls Tryd.prog 31 #[.pointer (some ⟨gc,0,none⟩),.agg (ints .u8 sec),.int .i64 x] w (fun e W=>e=.returned (.tuple #[])∧GrR base gc cs sec 0 w W):=by
  obtain ⟨v0,hgc,hv0⟩:=hgs
  have hgcl:=Qaq hgc
  have hk0:Seat.kidL x<0:=by unfold lvOk at hlv; simp only [Bool.and_eq_true,decide_eq_true_eq] at hlv; exact hlv.2
  refine enter 38 [(0,.pointer (some ⟨gc,0,none⟩)),(1,.agg (ints .u8 (sec))),(2,.int .i64 x)] Tryd.func31 rfl rfl kj rfl ?_
  refine wp_seq_k fun K2 hK2=>?_
  refine Qae ?_
  refine Qar (ints .u8 (sec)) 29 4 rfl kj kj fun g3 W1 l3 e1 r3_1=>?_
  have x1:GP base gc w W1:=GP.ext (GP.refl base gc w) e1
  have b3:w.heap.size≤g3:=qT (GP.refl base gc w).size l3
  refine Qal ?_
  refine hK2 _ _ ?_
  refine wp_seq_k fun K4 hK4=>?_
  refine Qae ?_
  refine Qab (.int .i64 x) 9 rfl kj kj ?_
  have y0_1:Ext w W1:=(zbs (zbr w) e1)
  refine Qau (.tuple #[.int .i64 (Seat.kidL x),.int .i64 (Seat.kidR x)]) 42 #[.int .i64 x] 10 rfl kj kj (Qmm x (QhZ hlv) _ (hT.ext y0_1)) fun W2 e2=>?_
  have x2:GP base gc w W2:=GP.ext x1 e2
  refine Qab (.tuple #[.int .i64 (Seat.kidL x),.int .i64 (Seat.kidR x)]) 8 rfl kj kj ?_
  refine Qab (.int .i64 (Seat.kidL x)) 11 rfl kj kj ?_
  refine Qab (.int .i64 (Seat.kidR x)) 12 rfl kj kj ?_
  refine Qab (.int .i64 (Seat.kidL x)) 6 rfl kj kj ?_
  refine Qab (.int .i64 (Seat.kidR x)) 7 rfl kj kj ?_
  refine Qal ?_
  refine hK4 _ _ ?_
  refine wp_seq_k fun K5 hK5=>?_
  refine wp_seq_k fun K6 hK6=>?_
  refine Qae ?_
  refine Qab (.int .i64 (Seat.kidL x)) 13 rfl kj kj ?_
  refine Qab (.bool true) 14 rfl kj (Qah (u:=.bool (decide ((Seat.kidL x)<0))) kj (congrArg zax (decide_eq_true hk0))) ?_
  refine Qal ?_
  refine hK6 _ _ ?_
  refine cond_true kj ?_
  refine wp_seq_k fun K7 hK7=>?_
  have r1_1:=(Qaa hgc e1)
  have r1_2:=(Qaa r1_1 e2)
  have r3_2:=(Qaa r3_1 e2)
  refine Wm.region_walkM (fun W=>W.heap[gc]? = some (.cells (#[v0]) 71)∧W.heap[g3]? = some (.cells (ints .u8 (sec)) 29)) 13 kj fun W3 e3=>⟨⟨Qaa r1_2 e3,Qaa r3_2 e3⟩,?_⟩
  have x3:GP base gc w W3:=GP.ext x2 e3
  refine Wm.wm_val 0 (.pointer (some ⟨gc,0,none⟩)) 15 rfl rfl kj kj (by decide) kj (fun _ _ _ h=>h) (fun W hR=>by kernel_rfl) ?_
  refine Wm.wm_val 1 (.pointer (some ⟨gc,0,none⟩)) 16 rfl rfl kj kj (by decide) kj (fun _ _ _ h=>h) (fun W hR=>by kernel_rfl) ?_
  refine Wm.wm_val 2 (.pointer (some ⟨gc,0,none⟩)) 17 rfl rfl kj kj (by decide) kj (fun _ _ _ h=>h) (fun W hR=>by kernel_rfl) ?_
  refine Wm.wm_val 3 (.pointer (some ⟨gc,0,none⟩)) 18 rfl rfl kj kj (by decide) kj (fun _ _ _ h=>h) (fun W hR=>by kernel_rfl) ?_
  refine Wm.wm_val 4 (v0) 19 rfl rfl kj kj (by decide) kj (fun _ _ _ h=>h) (fun W hR=>(Qad 69 _ gc 0 71 _ (v0) _ hR.1 rfl kj kj kj)) ?_
  refine Wm.wm_val 5 (.agg (ints .u8 (sec))) 20 rfl rfl kj kj (by decide) kj (fun _ _ _ h=>h) (fun W hR=>(Qap 29 _ g3 29 _ _ hR.2 rfl kj kj (isz (n:=32) kj ((Qat _ _).trans hsl)))) ?_
  have r1_3:=(Qaa r1_2 e3)
  have r3_3:=(Qaa r3_2 e3)
  refine Wm.wm_run 6 kj rfl (fun v W'=>(∃ g,v=.map (some g)∧W3.heap.size≤g∧W'.heap[g]? = some (.map #[] 0))∧Ext W3 W') 21 rfl kj ⟨.map (some W3.heap.size),W3.alloc (.map #[] 0),kj,⟨_,rfl,qR _,heap_alloc_new _ _⟩,Qbb _ _⟩ (fun v W h=>⟨Qaa r1_3 h.2,Qaa r3_3 h.2⟩) fun vv8 W4 hh8=>?_
  obtain ⟨⟨gm,rfl,lgm,hgm⟩,e4⟩:=hh8
  have x4:GP base gc w W4:=GP.ext x3 e4
  have lgm0:w.heap.size≤gm:=qT x3.size lgm
  refine Wm.wm_val 7 (.agg (cat [#[.int .i64 0],#[.int .u64 0],ints .u8 (sec),#[.int .i64 0],#[.map (some gm)]])) 22 rfl rfl kj kj (by decide) kj (fun _ _ _ h=>h) (fun W hR=>(QiJ 82 _ (.agg (cat [#[.int .i64 0],#[.int .u64 0],ints .u8 (zao 32 0),#[.int .i64 0],#[.map none]])) #[(0,2),(2,32),(34,1),(35,1)] (cat [#[.int .i64 0],#[.int .u64 0],ints .u8 (sec),#[.int .i64 0],#[.map (some gm)]]) _ [(1,.agg (ints .u8 sec)),(3,.map (some gm))] rfl kj rfl (QmW (fun i=>(#[(0,2),(2,32),(34,1),(35,1)]:Array (Nat×Nat))[i]?) rfl rfl sec hsl gm) kj kj kj)) ?_
  have r1_4:=(Qaa r1_3 e4)
  have r3_4:=(Qaa r3_3 e4)
  refine Wm.wm_run 8 kj rfl (fun v W'=>(∃ g,v=.pointer (some ⟨g,0,none⟩)∧W4.heap.size≤g∧W'.heap[g]? = some (.cells (cat [#[.int .i64 0],#[.int .u64 0],ints .u8 (sec),#[.int .i64 0],#[.map (some gm)]]) 82))∧Ext W4 W') 23 rfl kj ⟨.pointer (some ⟨W4.heap.size,0,none⟩),W4.alloc (.cells (cat [#[.int .i64 0],#[.int .u64 0],ints .u8 (sec),#[.int .i64 0],#[.map (some gm)]]) 82),kj,⟨_,rfl,qR _,heap_alloc_new _ _⟩,Qbb _ _⟩ (fun v W h=>⟨Qaa r1_4 h.2,Qaa r3_4 h.2⟩) fun vv10 W5 hh10=>?_
  obtain ⟨⟨g11,rfl,l11,r11_5⟩,e5⟩:=hh10
  have x5:GP base gc w W5:=GP.ext x4 e5
  have b11:w.heap.size≤g11:=qT x4.size l11
  have r1_5:=(Qaa r1_4 e5)
  have r3_5:=(Qaa r3_4 e5)
  refine Wm.wm_run 9 kj rfl (fun v W'=>(∃ g,v=.slice (some ⟨g,0,none⟩) 1 1∧W5.heap.size≤g∧W'.heap[g]? = some (.cells #[.pointer (some ⟨g11,0,none⟩)] 73))∧Ext W5 W') 24 rfl kj ⟨.slice (some ⟨W5.heap.size,0,none⟩) 1 1,W5.alloc (.cells #[.pointer (some ⟨g11,0,none⟩)] 73),kj,⟨_,rfl,qR _,heap_alloc_new _ _⟩,Qbb _ _⟩ (fun v W h=>⟨Qaa r1_5 h.2,Qaa r3_5 h.2⟩) fun vv12 W6 hh12=>?_
  obtain ⟨⟨g13,rfl,l13,r13_6⟩,e6⟩:=hh12
  have x6:GP base gc w W6:=GP.ext x5 e6
  have r1_6:=(Qaa r1_5 e6)
  have r3_6:=(Qaa r3_5 e6)
  have r9_5:=(Qaa hgm e5)
  have r9_6:=(Qaa r9_5 e6)
  have r11_6:=(Qaa r11_5 e6)
  have hv1:OwnR 73 base (cs.map fun p=>zaj (some ⟨p.1,0,none⟩)) v0 W6:=OwnR.keep hv0 fun g hg=>by obtain ⟨-,cur,hc9⟩:=hv0.at hg; exact (zbs (zbs (zbs (zbs (zbs (zbs (zbr w) e1) e2) e3) e4) e5) e6).block g (Qaq hc9)
  have hch1:ChSt g11 gm sec [] 0 [] W6:=QlE hsl hsb r11_6 r9_6
  refine Wm.wm_run 10 kj rfl (fun v W'=>OwnR 73 base ((cs.map fun p=>zaj (some ⟨p.1,0,none⟩))++[.pointer (some ⟨g11,0,none⟩)]) v W'∧GP base gc W6 W'∧W'.heap[gc]? = some (.cells (#[v0]) 71)∧W'.heap[g3]? = some (.cells (ints .u8 (sec)) 29)) 25 rfl kj (appG (c:=1) (s:=.tmp 19) (x:=.tmp 24) (t:=69) rfl kj kj kj kj r13_6 rfl hv1 (by rw [zay]; omega) (qT hb x6.size) r1_6 (by decide) r3_6 (by decide)) (fun v W h=>h.2.2) fun u1 W7 hh14=>?_
  obtain ⟨hv2,q7,r1_7,r3_7⟩:=hh14
  have x7:GP base gc w W7:=GP.trans x6 q7
  have hch2:=hch1.gp q7 (by omega) (by omega)
  obtain ⟨ua,un,uc,rfl⟩:=OwnR.sl hv2
  refine Wm.wm_run 11 kj rfl (fun v W'=>v=.pointer (some ⟨gc,0,none⟩)∧Ext W7 W') 26 rfl kj ⟨_,_,kj,rfl,zbr _⟩ (fun v W h=>⟨Qaa r1_7 h.2,Qaa r3_7 h.2⟩) fun vv15 W8 hh15=>?_
  obtain ⟨rfl,e8⟩:=hh15
  have x8:GP base gc w W8:=GP.ext x7 e8
  have hv2_8:=OwnR.keep hv2 fun g hg=>by obtain ⟨-,cur,hc9⟩:=OwnR.at hv2 hg; exact e8.block g (Qaq hc9)
  have hch2_8:=ChSt.ext hch2 e8
  refine Wm.wm_val 12 (.pointer (some ⟨gc,0,none⟩)) 27 rfl rfl kj kj (by decide) kj (fun _ _ _ h=>h) (fun W hR=>by kernel_rfl) ?_
  have r1_8:=(Qaa r1_7 e8)
  have r3_8:=(Qaa r3_7 e8)
  refine Wm.wm_store gc _ (#[.slice ua un uc]) 71 r1_8 kj kj rfl rfl kj (Qbd 69 _ _ gc 0 71 _ (.slice ua un uc) r1_8 rfl kj kj kj kj kj rfl) fun W9 p9 r1_9=>?_
  have x9:GP base gc w W9:=GP.putg x8 p9
  refine hK7 _ _ ?_
  refine wp_ret ?_
  repeat (first | with_reducible refine goR1 ?_ | with_reducible refine goR2 ?_)
  exact (show bodyPost _ _ _ .ret _ _ from ret0 rfl ⟨rfl,gr0 x8 r1_8 hv2_8 hch2_8 p9 r1_9 b11 lgm0 hgcl⟩)
theorem QoM (sec : List Int) (tc tq:TypeId) (w:World) (hc:w.heap[4]? = some (.cells (ints .u64 QaR) tc)) (hq:w.heap[3]? = some (.cells (ints .u64 Qa9) tq)) (hsl:sec.length=32) (hsb:Qai sec):Calls Tryd.prog 43 #[.agg (ints .u8 sec),.string QkU] w (Ret w (.agg (ints .u8 (lftV sec)))):=by
  unfold lftV
  exact Qh1 sec QkU tc tq w hc hq hsl hsb
theorem Qo7 (sec : List Int) (tc tq:TypeId) (w:World) (hc:w.heap[4]? = some (.cells (ints .u64 QaR) tc)) (hq:w.heap[3]? = some (.cells (ints .u64 Qa9) tq)) (hsl:sec.length=32) (hsb:Qai sec):Calls Tryd.prog 43 #[.agg (ints .u8 sec),.string QhF] w (Ret w (.agg (ints .u8 (rgtV sec)))):=by
  unfold rgtV
  exact Qh1 sec QhF tc tq w hc hq hsl hsb
theorem Qod (k : Nat) (base gc:Nat) (cs:List (Nat×Nat)) (sec:List Int) (x:Int) (tc tq:TypeId) (w:World) (hc:w.heap[4]? = some (.cells (ints .u64 QaR) tc)) (hq:w.heap[3]? = some (.cells (ints .u64 Qa9) tq)) (hT:Seat.TabAt w) (hsl:sec.length=32) (hsb:Qai sec) (hb:base≤w.heap.size) (hcn:cs.length+2^(k+1)≤1000) (hgs:GrS base gc cs w) (hltc:4<base) (hlts:3<base) (hltt:2<base) (hnec:4≠gc) (hnes:3≠gc) (hnet:2≠gc) (ih:∀ (cs:List (Nat×Nat)) (sec:List Int) (x:Int) (w:World),w.heap[4]? = some (.cells (ints .u64 QaR) tc)→w.heap[3]? = some (.cells (ints .u64 Qa9) tq)→Seat.TabAt w→sec.length=32→Qai sec→base≤w.heap.size→cs.length+2^k≤1000→GrS base gc cs w→lvOk k x=true→Calls Tryd.prog 31 #[.pointer (some ⟨gc,0,none⟩),.agg (ints .u8 sec),.int .i64 x] w (fun e W=>e=.returned (.tuple #[])∧GrR base gc cs sec k w W)) (hlv:lvOk (k+1) x=true):Calls Tryd.prog 31 #[.pointer (some ⟨gc,0,none⟩),.agg (ints .u8 sec),.int .i64 x] w (fun e W=>e=.returned (.tuple #[])∧GrR base gc cs sec (k+1) w W):=by
  have hgcl:gc<w.heap.size:=by obtain ⟨v0,hgc,-⟩:=hgs; exact Qaq hgc
  have hk0:0≤Seat.kidL x:=by unfold lvOk at hlv; simp only [Bool.and_eq_true,decide_eq_true_eq] at hlv; exact hlv.1.1.2
  have hlv2:lvOk k (Seat.kidL x)=true∧lvOk k (Seat.kidR x)=true:=by rw [lvOk] at hlv; simp only [Bool.and_eq_true,decide_eq_true_eq] at hlv; exact ⟨hlv.1.2,hlv.2⟩
  rw [Nat.pow_succ] at hcn
  refine enter 38 [(0,.pointer (some ⟨gc,0,none⟩)),(1,.agg (ints .u8 (sec))),(2,.int .i64 x)] Tryd.func31 rfl rfl kj rfl ?_
  refine wp_seq_k fun K4 hK4=>?_
  refine Qae ?_
  refine Qar (ints .u8 (sec)) 29 4 rfl kj kj fun g5 W1 l5 e1 r5_1=>?_
  have x1:GP base gc w W1:=GP.ext (GP.refl base gc w) e1
  have b5:w.heap.size≤g5:=qT (GP.refl base gc w).size l5
  refine Qal ?_
  refine hK4 _ _ ?_
  refine wp_seq_k fun K6 hK6=>?_
  refine Qae ?_
  refine Qab (.int .i64 x) 9 rfl kj kj ?_
  have ht1_7:=(hT.ext e1)
  refine Qau (.tuple #[.int .i64 (Seat.kidL x),.int .i64 (Seat.kidR x)]) 42 #[.int .i64 x] 10 rfl kj kj (Qmm x (QhZ hlv) _ ht1_7) fun W2 e2=>?_
  have x2:GP base gc w W2:=GP.ext x1 e2
  refine Qab (.tuple #[.int .i64 (Seat.kidL x),.int .i64 (Seat.kidR x)]) 8 rfl kj kj ?_
  refine Qab (.int .i64 (Seat.kidL x)) 11 rfl kj kj ?_
  refine Qab (.int .i64 (Seat.kidR x)) 12 rfl kj kj ?_
  refine Qab (.int .i64 (Seat.kidL x)) 6 rfl kj kj ?_
  refine Qab (.int .i64 (Seat.kidR x)) 7 rfl kj kj ?_
  refine Qal ?_
  refine hK6 _ _ ?_
  refine wp_seq_k fun K8 hK8=>?_
  refine wp_seq_k fun K9 hK9=>?_
  refine Qae ?_
  refine Qab (.int .i64 (Seat.kidL x)) 13 rfl kj kj ?_
  refine Qab (.bool false) 14 rfl kj (Qah (u:=.bool (decide ((Seat.kidL x)<0))) kj (congrArg zax (decide_eq_false (by omega)))) ?_
  refine Qal ?_
  refine hK9 _ _ ?_
  refine cond_false kj ?_
  refine wp_skip ?_
  refine hK8 _ _ ?_
  refine wp_seq_k fun K10 hK10=>?_
  refine Qae ?_
  refine Qab (.pointer (some ⟨gc,0,none⟩)) 28 rfl kj kj ?_
  have r5_2:=(Qaa r5_1 e2)
  refine Qab (.agg (ints .u8 (sec))) 29 rfl kj (Qap 29 _ g5 29 _ _ r5_2 rfl kj kj (isz (n:=32) kj ((Qat _ _).trans hsl))) ?_
  have r2_1:=(Qaa hc e1)
  have r2_2:=(Qaa r2_1 e2)
  have r3_1:=(Qaa hq e1)
  have r3_2:=(Qaa r3_1 e2)
  refine Qau (.agg (ints .u8 (lftV sec))) 43 #[.agg (ints .u8 (sec)),.string QkU] 30 rfl kj kj (QoM sec tc tq _ r2_2 r3_2 hsl hsb) fun W3 e3=>?_
  have x3:GP base gc w W3:=GP.ext x2 e3
  refine Qab (.int .i64 (Seat.kidL x)) 31 rfl kj kj ?_
  have r2_3:=(Qaa r2_2 e3)
  have r3_3:=(Qaa r3_2 e3)
  have ht3_11:=((ht1_7.ext e2).ext e3)
  refine Qav (fun v W'=>v=.tuple #[]∧GrR base gc cs (lftV sec) k W3 W') 31 #[.pointer (some ⟨gc,0,none⟩),.agg (ints .u8 (lftV sec)),.int .i64 (Seat.kidL x)] 32 rfl kj kj ((ih cs (lftV sec) (Seat.kidL x) W3 r2_3 r3_3 ht3_11 (Qls _) (QiX _) (qT hb x3.size) (by omega) (GrS.ext (GrS.ext (GrS.ext hgs e1) e2) e3) hlv2.1).mono (by rintro e w' ⟨rfl,h⟩; exact ⟨_,rfl,rfl,h⟩)) fun vv12 W4 hh12=>?_
  obtain ⟨rfl,q4,n1,l1,hg1,c1,d1,d2⟩:=hh12
  have xa:=x3
  have x4:GP base gc w W4:=GP.trans x3 q4
  refine Qal ?_
  refine hK10 _ _ ?_
  refine Qae ?_
  refine Qab (.pointer (some ⟨gc,0,none⟩)) 33 rfl kj kj ?_
  have r5_3:=(Qaa r5_2 e3)
  have r5_4:=(GP.row q4 r5_3 (by decide) (Ne.symm (zaz (qL hgcl b5))))
  refine Qab (.agg (ints .u8 (sec))) 34 rfl kj (Qap 29 _ g5 29 _ _ r5_4 rfl kj kj (isz (n:=32) kj ((Qat _ _).trans hsl))) ?_
  have r2_4:=(GP.low q4 r2_3 hltc hnec)
  have r3_4:=(GP.low q4 r3_3 hlts hnes)
  refine Qau (.agg (ints .u8 (rgtV sec))) 43 #[.agg (ints .u8 (sec)),.string QhF] 35 rfl kj kj (Qo7 sec tc tq _ r2_4 r3_4 hsl hsb) fun W5 e5=>?_
  have x5:GP base gc w W5:=GP.ext x4 e5
  refine Qab (.int .i64 (Seat.kidR x)) 36 rfl kj kj ?_
  have r2_5:=(Qaa r2_4 e5)
  have r3_5:=(Qaa r3_4 e5)
  have ht5_13:=((Qn6 ht3_11 q4 hltt hnet).ext e5)
  refine Qav (fun v W'=>v=.tuple #[]∧GrR base gc (cs++n1) (rgtV sec) k W5 W') 31 #[.pointer (some ⟨gc,0,none⟩),.agg (ints .u8 (rgtV sec)),.int .i64 (Seat.kidR x)] 37 rfl kj kj ((ih (cs++n1) (rgtV sec) (Seat.kidR x) W5 r2_5 r3_5 ht5_13 (Qla _) (QiK _) (qT hb x5.size) (by rw [zac,l1]; omega) (GrS.ext hg1 e5) hlv2.2).mono (by rintro e w' ⟨rfl,h⟩; exact ⟨_,rfl,rfl,h⟩)) fun vv14 W6 hh14=>?_
  obtain ⟨rfl,hr2⟩:=hh14
  have q6:=hr2.1
  have x6:GP base gc w W6:=GP.trans x5 q6
  refine Qal ?_
  repeat (first | with_reducible refine goX1 ?_ | with_reducible refine goX2 ?_ | with_reducible refine goX3 ?_)
  exact (show bodyPost _ _ _ .normal _ _ from end0 rfl ⟨rfl,grS xa q4 l1 c1 d1 d2 (GP.ext (GP.refl base gc W4) e5) hr2 hgcl⟩)
theorem Qof (base gc:Nat) (tc tq:TypeId) (hltc:4<base) (hlts:3<base) (hltt:2<base) (hnec:4≠gc) (hnes:3≠gc) (hnet:2≠gc):∀ (k:Nat) (cs:List (Nat×Nat)) (sec:List Int) (x:Int) (w:World),w.heap[4]? = some (.cells (ints .u64 QaR) tc)→w.heap[3]? = some (.cells (ints .u64 Qa9) tq)→Seat.TabAt w→sec.length=32→Qai sec→base≤w.heap.size→cs.length+2^k≤1000→GrS base gc cs w→lvOk k x=true→Calls Tryd.prog 31 #[.pointer (some ⟨gc,0,none⟩),.agg (ints .u8 sec),.int .i64 x] w (fun e W=>e=.returned (.tuple #[])∧GrR base gc cs sec k w W)
  | 0,cs,sec,x,w,hc,hq,hT,hsl,hsb,hb,hcn,hgs,hlv=>Qoe base gc cs sec x tc tq w hc hq hT hsl hsb hb (by omega) hgs hlv
  | k+1,cs,sec,x,w,hc,hq,hT,hsl,hsb,hb,hcn,hgs,hlv=>Qod k base gc cs sec x tc tq w hc hq hT hsl hsb hb hcn hgs hltc hlts hltt hnec hnes hnet (Qof base gc tc tq hltc hlts hltt hnec hnes hnet k) hlv
def NewR (sec : List Int) (k:Nat) (w:World) (v:Value) (W:World):Prop:=∃ (gc gl cap:Nat) (lp:Array Value) (ns:List (Nat×Nat)),v=.pointer (some ⟨gc,0,none⟩)∧w.heap.size≤gc∧ns.length=2^k∧W.heap[gc]? = some (.cells #[.slice (some ⟨gl,0,none⟩) (2^k) cap] 71)∧W.heap[gl]? = some (.cells lp 73)∧(∀ j p,ns[j]? = some p→lp[j]? = some (.pointer (some ⟨p.1,0,none⟩))∧ChSt p.1 p.2 (QbI sec k j) [] 0 [] W∧w.heap.size≤p.1∧w.heap.size≤p.2)∧(ns.map Prod.fst).Nodup∧(ns.map Prod.snd).Nodup
theorem newR {sec : List Int} {k base gc:Nat} {w W1 W:World} (e:Ext w W1) (hb:base=W1.heap.size) (hl:w.heap.size≤gc) (h:GrR base gc [] sec k W1 W):NewR sec k w (.pointer (some ⟨gc,0,none⟩)) W:=by
  obtain ⟨q,ns,l,⟨v,h1,h2⟩,c,d1,d2⟩:=h
  rw [za0] at h2
  have hp:0<2^k:=za1 (by decide)
  rcases h2.1.2 with ⟨-,q2⟩ | ⟨gl,cap,cur,rfl,q2,q3,q4,q5,q6,q7⟩
  · rw [zay,l] at q2; omega
  · rw [zay,l] at h1 q7
    refine ⟨gc,gl,cap,cur,ns,rfl,hl,l,h1,q3,fun j p hj=>?_,d1,d2⟩
    obtain ⟨a1,a2,a3⟩:=c j p hj
    have:=e.size
    refine ⟨?_,a1,by omega,by omega⟩
    have hjl:j<ns.length:=(za2.1 hj).1
    rw [Nat.mul_one] at q7
    have e2:(cur.toList.take (2^k))[j]? = (ns.map fun p=>zaj (some ⟨p.1,0,none⟩))[j]?:=by rw [q7]
    rw [List.getElem?_take_of_lt (by omega),List.getElem?_map,hj] at e2
    rw [←za3]
    exact e2
theorem Qog {gc : Nat} {w W1 W:World} (e:Ext w W1) (q:GP W1.heap.size gc W1 W) (hg:w.heap.size≤gc):Ext w W:=⟨q.os.trans e.os,q.tape.trans e.tape,q.output.trans e.output,qT e.size q.size,fun k hk=>(q.block k (qL hk e.size) (by omega) (.inl (qL hk e.size))).trans (e.block k hk)⟩
theorem Qmy (k : Nat) (hk:k≤5) (W:World):Calls Tryd.prog 15 #[.int .i64 ((2^k:Nat):Int)] W (Ret W (.int .i64 (((2^k:Nat):Int)-1))) :=
  (Seat.root ((2^k:Nat):Int) W).mono fun e W' hh=>by
    have hh':e=.returned (.int .i64 (if Seat.isTree ((2^k:Nat):Int)=true then ((2^k:Nat):Int)-1 else -1))∧W=W':=hh
    rw [if_pos ((by decide +kernel:∀ k:Fin 6,Seat.isTree ((2^k.val:Nat):Int)=true) ⟨k,by omega⟩)] at hh'
    exact ⟨hh'.1,hh'.2▸zbr _⟩
theorem newC (k : Nat) (hk:k≤5) (sec:List Int) (tc tq:TypeId) (w:World) (hc:w.heap[4]? = some (.cells (ints .u64 QaR) tc)) (hq:w.heap[3]? = some (.cells (ints .u64 Qa9) tq)) (hT:Seat.TabAt w) (hsl:sec.length=32) (hsb:Qai sec):Calls Tryd.prog 17 #[.agg (ints .u8 sec),.int .i64 ((2^k:Nat):Int)] w (QbF w (NewR sec k w)):=by
  refine enter 18 [(0,.agg (ints .u8 (sec))),(1,.int .i64 ((2^k:Nat):Int))] Tryd.func17 rfl rfl kj rfl ?_
  refine wp_seq_k fun K3 hK3=>?_
  refine Qae ?_
  refine Qar (ints .u8 (sec)) 29 2 rfl kj kj fun g4 W1 l4 e1 r4_1=>?_
  have x1:Ext w W1:=zbu (zbr w) e1
  have b4:w.heap.size≤g4:=qT (zbr w).size l4
  refine Qab (.pointer none) 4 rfl kj kj ?_
  refine Qal ?_
  refine hK3 _ _ ?_
  refine wp_seq_k fun K5 hK5=>?_
  refine Qae ?_
  refine Qab (.agg (#[.slice none 0 0])) 7 rfl kj kj ?_
  refine Qar (#[.slice none 0 0]) 71 8 rfl kj kj fun g6 W2 l6 e2 r6_2=>?_
  have x2:Ext w W2:=zbu x1 e2
  have b6:w.heap.size≤g6:=qT x1.size l6
  refine Qab (.pointer (some ⟨g6,0,none⟩)) 5 rfl kj kj ?_
  refine Qal ?_
  refine hK5 _ _ ?_
  refine wp_seq_k fun K7 hK7=>?_
  refine wp_seq_k fun K8 hK8=>?_
  refine Qae ?_
  refine Qab (.int .i64 ((2^k:Nat):Int)) 9 rfl kj kj ?_
  refine Qau (.int .i64 (((2^k:Nat):Int)-1)) 15 #[.int .i64 ((2^k:Nat):Int)] 10 rfl kj kj ((Qmy k hk) _) fun W3 e3=>?_
  have x3:Ext w W3:=zbu x2 e3
  refine Qab (.int .i64 (((2^k:Nat):Int)-1)) 6 rfl kj kj ?_
  refine Qal ?_
  refine hK8 _ _ ?_
  refine wp_seq_k fun K9 hK9=>?_
  refine Qae ?_
  refine Qab (.int .i64 (((2^k:Nat):Int)-1)) 11 rfl kj kj ?_
  refine Qab (.bool true) 12 rfl kj (Qah (u:=.bool (decide ((((2^k:Nat):Int)-1)≥0))) kj (congrArg zax (decide_eq_true (by have:0<2^k:=za1 (by decide); omega)))) ?_
  refine Qal ?_
  refine hK9 _ _ ?_
  refine cond_true kj ?_
  refine Qae ?_
  refine Qab (.pointer (some ⟨g6,0,none⟩)) 13 rfl kj kj ?_
  have r4_2:=(Qaa r4_1 e2)
  have r4_3:=(Qaa r4_2 e3)
  refine Qab (.agg (ints .u8 (sec))) 14 rfl kj (Qap 29 _ g4 29 _ _ r4_3 rfl kj kj (isz (n:=32) kj ((Qat _ _).trans hsl))) ?_
  refine Qab (.int .i64 (((2^k:Nat):Int)-1)) 15 rfl kj kj ?_
  have r1_1:=(Qaa hc e1)
  have r1_2:=(Qaa r1_1 e2)
  have r1_3:=(Qaa r1_2 e3)
  have r2_1:=(Qaa hq e1)
  have r2_2:=(Qaa r2_1 e2)
  have r2_3:=(Qaa r2_2 e3)
  have r6_3:=(Qaa r6_2 e3)
  refine Qav (fun v W'=>v=.tuple #[]∧GrR W3.heap.size g6 [] sec k W3 W') 31 #[.pointer (some ⟨g6,0,none⟩),.agg (ints .u8 (sec)),.int .i64 (((2^k:Nat):Int)-1)] 16 rfl kj kj ((Qof W3.heap.size g6 tc tq (Qaq r1_3) (Qaq r2_3) (hT.ext x3).1 (by have:=Qaq hc; have:=b6; omega) (by have:=Qaq hq; have:=b6; omega) (by have:=hT.1; have:=b6; omega) k [] sec (((2^k:Nat):Int)-1) W3 r1_3 r2_3 (hT.ext x3) hsl hsb (qR _) (by have:2^k≤2^5:=Nat.pow_le_pow_right (by decide) (by omega); simp only [za4]; omega) ⟨_,r6_3,⟨⟨rfl,.inl ⟨rfl,rfl⟩⟩,za5 _⟩⟩ (QjW ⟨k,by omega⟩)).mono (by rintro e w' ⟨rfl,h⟩; exact ⟨_,rfl,rfl,h⟩)) fun vv10 W4 hh10=>?_
  obtain ⟨rfl,hgr⟩:=hh10
  have x4:Ext w W4:=Qog x3 hgr.1 b6
  refine Qal ?_
  refine hK7 _ _ ?_
  refine wp_seq_k fun K11 hK11=>?_
  refine Qae ?_
  refine Qab (.pointer (some ⟨g6,0,none⟩)) 17 rfl kj kj ?_
  refine Qab (.pointer (some ⟨g6,0,none⟩)) 4 rfl kj kj ?_
  refine Qal ?_
  refine hK11 _ _ ?_
  refine wp_ret ?_
  repeat (first | with_reducible refine goR1 ?_ | with_reducible refine goR2 ?_)
  exact (show bodyPost _ _ _ .ret _ _ from ret1 (.pointer (some ⟨g6,0,none⟩)) rfl (Qaz kj) ⟨_,rfl,x4,newR x3 rfl b6 hgr⟩)
end Cn
end
section
namespace Pk
open Go Go.RowKit
open Rely Auto Own Sha
open Cha
open Ae hiding run_storeQ
theorem newB (w : World):Calls Tryd.prog 6 #[] w (QbF w (fun v W=>∃ g,v=.pointer (some ⟨g,0,none⟩)∧w.heap.size≤g∧W.heap[g]? = some (.cells (cat [#[.slice none 0 0],#[.bool false]]) 49))):=by
  refine enter 3 [] Tryd.func6 rfl rfl kj rfl ?_
  refine wp_seq_k fun K1 hK1=>?_
  refine Qae ?_
  refine Qab (.pointer none) 0 rfl kj kj ?_
  refine Qal ?_
  refine hK1 _ _ ?_
  refine wp_seq_k fun K2 hK2=>?_
  refine Qae ?_
  refine Qab (.agg (cat [#[.slice none 0 0],#[.bool false]])) 1 rfl kj kj ?_
  refine Qar (cat [#[.slice none 0 0],#[.bool false]]) 49 2 rfl kj kj fun g3 W1 l3 e1 r3_1=>?_
  have x1:Ext w W1:=zbu (zbr w) e1
  have b3:w.heap.size≤g3:=qT (zbr w).size l3
  refine Qab (.pointer (some ⟨g3,0,none⟩)) 0 rfl kj kj ?_
  refine Qal ?_
  refine hK2 _ _ ?_
  refine wp_ret ?_
  exact (show bodyPost _ _ _ .ret _ _ from ret1 (.pointer (some ⟨g3,0,none⟩)) rfl (Qaz kj) ⟨_,rfl,x1,g3,rfl,b3,r3_1⟩)
end Pk
end
section
namespace Pk
open Go Go.RowKit
open Rely Auto Own Sha
open Cha
open Ae hiding run_storeQ
open Cn hiding nb_new run_extractT
theorem Qhh {P : Program} {ρ:Operand→Value} {o:Oper} {w:World} (t e:TypeId) (sz:Nat) (x:Operand) (v:Value) (ho:o.op=.buildSlice t 1 #[(0,x)]) (hx:ρ x=v) (hu:P.underlying t=some (.slice e)) (hs:(P.info? e).map (·.size)=some sz) (hz:((P.info? e).bind (·.zero)).isSome=true) (hv:v.cells.size=sz) (h0:0<sz) (hl:sz≤2^24) :
    (execOp ρ o).run P w=.ok (.value (.slice (some ⟨w.heap.size,0,none⟩) 1 1)) (w.alloc (.cells v.cells e)):=by
  cases hie:P.info? e with
  | none=>simp [hie] at hs
  | some ie =>
    simp only [hie,zaa,Option.some.injEq,Option.bind_some] at hs hz
    obtain ⟨z,hzz⟩:=Option.isSome_iff_exists.1 hz
    subst hx
    have hf:Instr.fill (fun i=>some (i*ie.size,ie.size)) ((Array.range (1*ie.size)).map (z.cells[·%z.cells.size]!)) (Array.map (fun p:Nat×Operand=>(p.1,ρ p.2)) #[(0,x)]).toList=some (ρ x).cells:=by
      have:=Qgc (fun i=>some (i*ie.size,ie.size)) [(0,ie.size,ρ x,(ρ x).cells)] [] ((Array.range (1*ie.size)).map (z.cells[·%z.cells.size]!)) 0 rfl ⟨by simp,rfl,by rw [hv,hs],trivial⟩ (by simp [tot])
      simpa [cat] using this
    have hr:=run_buildSlice w t e 1 (Array.map (fun p:Nat×Operand=>(p.1,ρ p.2)) #[(0,x)]) (ρ x).cells ie z hu hie hzz (by rw [hs]; omega) (by rw [hs]; omega) hf
    unfold execOp
    simp only [ho,zad]
    rw [hr]
    rfl
structure Ep where
  gc:Nat
  grp:List Int
  num:Int
  leaf:Int
def epP (e : Ep):List (Array Value):=[#[.pointer (some ⟨e.gc,0,none⟩)],ints .u8 e.grp,#[.int .i64 e.num],#[.int .i64 e.leaf]]
theorem Qdi (e : Ep) (h:e.grp.length=32):(cat (epP e)).size=35:=by
  unfold epP
  rw [Qac,Qac,Qac,Qac]
  simp only [qS,cat,(Qat _ _).trans h]
  rfl
theorem Qk0 (e : Ep):∀ u∈(cat (epP e)).toList,u.oneCell'=true:=by
  intro u hu
  unfold epP at hu
  simp only [cat,Array.toList_append,ints,za6,zav,za7,zan,or_false] at hu
  rcases hu with rfl | ⟨x,-,rfl⟩ | rfl | rfl <;> rfl
theorem QlT {ρ : Operand→Value} {o:Oper} {W:World} (a b c d:Operand) (e:Ep) (ho:o.op=.build 55 #[(0,a),(1,b),(2,c),(3,d)]) (ha:ρ a=.pointer (some ⟨e.gc,0,none⟩)) (hb:ρ b=.agg (ints .u8 e.grp)) (hc:ρ c=.int .i64 e.num) (hd:ρ d=.int .i64 e.leaf) (hl:e.grp.length=32) :
    (execOp ρ o).run Tryd.prog W=.ok (.value (.agg (cat (epP e)))) W :=
  Qfz 55 _ (.agg (cat [#[.pointer none],ints .u8 (zao 32 0),#[.int .i64 0],#[.int .i64 0]])) #[(0,1),(1,32),(33,1),(34,1)] [(0,1,.pointer (some ⟨e.gc,0,none⟩),#[.pointer (some ⟨e.gc,0,none⟩)]),(1,32,.agg (ints .u8 (e.grp)),ints .u8 (e.grp)),(2,1,.int .i64 e.num,#[.int .i64 e.num]),(3,1,.int .i64 e.leaf,#[.int .i64 e.leaf])] ho (by simp [ha,hb,hc,hd]) ⟨kj,rfl,kj,kj,rfl,((Qat _ _).trans hl),kj,rfl,kj,kj,rfl,kj,trivial⟩ kj kj kj kj
structure OwE (base : Nat) (es : List Ep) (v : Value) (W : World) : Prop where
  row:W.ownsRow base 55 35 v es.length (es.flatMap fun e=>(cat (epP e)).toList)
  len:∀ e∈es,e.grp.length=32
theorem OwE.nil (base : Nat) (W:World):OwE base [] (.slice none 0 0) W:=⟨World.ownsRow_nil W base 55 35,fun n hn=>by cases hn⟩
theorem OwE.ext {base : Nat} {es:List Ep} {v:Value} {W W':World} (h:OwE base es v W) (e:Ext W W'):OwE base es v W' :=
  ⟨h.row.kept (row:=none) ⟨e.os,e.tape,e.output,e.size,fun k hk _=>e.block k hk⟩ (by cases e:v.ownBlock with
    | none=>exact .inl rfl
    | some k=>exact .inr fun e2=>by cases e2),h.len⟩
theorem OwE.app {P : Program} {ρ:Operand→Value} {o:Oper} {W:World} (b:Nat) (s x:Operand) (t:TypeId) (ho:o.op=.call { callee:=.builtin .append,args:=#[s,x],argTypes:=#[t,t] }) (ht:P.underlying t=some (.slice 55))
    (hi:(P.info? 55).map (fun i=>(i.zero.map (·.cells.size),i.size,i.bytes))=some (some 35,35,b)) (hb8:b≤1000) {base g:Nat} {v:Value} {es:List Ep} {e:Ep} (hs:ρ s=v) (hx:ρ x=.slice (some ⟨g,0,none⟩) 1 1)
    (h:OwE base es v W) (he:e.grp.length=32) (hrow:W.heap[g]? = some (.cells (cat (epP e)) 55)) (hl:es.length≤1000) (hbase:base≤W.heap.size) :
    ∃ v' W',(execOp ρ o).run P W=.ok (.value v') W'∧OwE base (es++[e]) v' W'∧W.grownBy W' v.ownBlock∧(v'.ownBlock=v.ownBlock∨v'.ownBlock=some W.heap.size):=by
  obtain ⟨i,hq,z,hz,hzs,hi2,hi3⟩:∃ i,P.info? 55=some i∧∃ z,i.zero=some z∧z.cells.size=35∧i.size=35∧i.bytes=b:=by
    cases hq:P.info? 55 with
    | none=>rw [hq] at hi; cases hi
    | some i =>
      rw [hq] at hi
      simp only [zaa,Option.some.injEq,Prod.mk.injEq] at hi
      obtain ⟨z,hz,hzs⟩:=Option.map_eq_some_iff.1 hi.1
      exact ⟨i,rfl,z,hz,hzs,hi.2.1,hi.2.2⟩
  have hsz:=Qdi e he
  obtain ⟨v',W',hr,h2,h3,-,h4⟩:=run_append_own_at (P:=P) W base t o.type 55 i z 35 b ht hq hz hi2 hi3 hzs (by decide) v es.length _ h.row ⟨g,0,none⟩ 1 1 (cat (epP e)).toList (by rw [za8,hsz])
    (fun j u hu=>by
      rw [WideShapes.add_plain,za9]
      unfold World.cell?
      simp only [hrow]
      rw [za3] at hu
      rw [←hu]; rfl) (Qk0 e) (by simp only [maxLen]; omega) (by
        have:(es.length+1)*b≤1001*1000:=Nat.mul_le_mul (by omega) hb8
        omega) hbase
  refine ⟨v',W',?_,⟨?_,?_⟩,h3,h4⟩
  · unfold execOp
    simp only [ho,resolve,invoke,builtin,zad,zae,zaf,zag,zah,zai,hs,hx,hr]
  · rw [zac,List.flatMap_append]
    simpa using h2
  · intro m hm
    rcases za6.1 hm with h1 | h1
    · exact h.len m h1
    · obtain rfl:m=e:=by simpa using h1
      exact he
theorem OwE.one {base : Nat} {e:Ep} {v:Value} {W:World} (h:OwE base [e] v W):∃ (g c:Nat) (cur:Array Value),v=.slice (some ⟨g,0,none⟩) 1 c∧base≤g∧W.heap[g]? = some (.cells cur 55)∧∀ (j:Nat) (u:Value),(cat (epP e))[j]? = some u→cur[j]? = some u:=by
  rcases h.row.2 with ⟨-,e2⟩ | ⟨g,cap,cur,q1,q2,q3,q4,q5,q6,q7⟩
  · cases e2
  · refine ⟨g,cap,cur,q1,q2,q3,fun j u hu=>?_⟩
    have hj:j<35:=by have:=(Array.getElem?_eq_some_iff.1 hu).1; rw [Qdi e (h.len e (by simp))] at this; exact this
    have:(cur.toList.take (1*35))[j]? = some u:=by
      show (cur.toList.take ([e].length*35))[j]? = some u
      rw [q7]; simpa using hu
    rw [zaA] at this
    simpa [hj] using this
def ChN (base : Nat) (sec:List Int) (k:Nat):Fact:=fun v W=>∃ w0:World,base≤w0.heap.size∧NewR sec k w0 v W
theorem NewR.ext {sec : List Int} {k:Nat} {w W W':World} {v:Value} (h:NewR sec k w v W) (e:Ext W W'):NewR sec k w v W':=by
  obtain ⟨gc,gl,cap,lp,ns,h1,h2,h3,h4,h5,h6,h7,h8⟩:=h
  exact ⟨gc,gl,cap,lp,ns,h1,h2,h3,Qaa h4 e,Qaa h5 e,fun j p hp=>⟨(h6 j p hp).1,(h6 j p hp).2.1.ext e,(h6 j p hp).2.2⟩,h7,h8⟩
theorem ChN.stable (base : Nat) (sec:List Int) (k:Nat):Qb9 Ext (ChN base sec k):=fun _ _ _ hR ⟨w0,h1,h2⟩=>⟨w0,h1,NewR.ext h2 hR⟩
def EpIs (base : Nat) (sec:List Int) (k:Nat) (grp:List Int) (num leaf:Int) (e:Ep) (W:World):Prop:=e.grp=grp∧e.num=num∧e.leaf=leaf∧ChN base sec k (.pointer (some ⟨e.gc,0,none⟩)) W
theorem EpIs.ext {base : Nat} {sec:List Int} {k:Nat} {grp:List Int} {num leaf:Int} {e:Ep} {W W':World} (h:EpIs base sec k grp num leaf e W) (x:Ext W W'):EpIs base sec k grp num leaf e W':=⟨h.1,h.2.1,h.2.2.1,ChN.stable _ _ _ _ _ _ x h.2.2.2⟩
def EpF (base : Nat) (sec:List Int) (k:Nat) (grp:List Int) (num leaf:Int):Fact:=fun v W=>∃ e:Ep,v=.agg (cat (epP e))∧EpIs base sec k grp num leaf e W
theorem EpF.stable (base : Nat) (sec:List Int) (k:Nat) (grp:List Int) (num leaf:Int):Qb9 Ext (EpF base sec k grp num leaf):=fun _ _ _ hR ⟨e,h1,h2⟩=>⟨e,h1,h2.ext hR⟩
def SlF (base : Nat) (sec:List Int) (k:Nat) (grp:List Int) (num leaf:Int):Fact:=fun v W=>∃ (g:Nat) (e:Ep),v=.slice (some ⟨g,0,none⟩) 1 1∧W.heap[g]? = some (.cells (cat (epP e)) 55)∧EpIs base sec k grp num leaf e W
theorem SlF.stable (base : Nat) (sec:List Int) (k:Nat) (grp:List Int) (num leaf:Int):Qb9 Ext (SlF base sec k grp num leaf):=fun _ _ _ hR ⟨g,e,h1,h2,h3⟩=>⟨g,e,h1,Qaa h2 hR,h3.ext hR⟩
def OnF (base : Nat) (sec:List Int) (k:Nat) (grp:List Int) (num leaf:Int):Fact:=fun v W=>∃ e:Ep,OwE base [e] v W∧EpIs base sec k grp num leaf e W
theorem OnF.stable (base : Nat) (sec:List Int) (k:Nat) (grp:List Int) (num leaf:Int):Qb9 Ext (OnF base sec k grp num leaf):=fun _ _ _ hR ⟨e,h1,h2⟩=>⟨e,h1.ext hR,h2.ext hR⟩
theorem Qeb {W W':World} (h:W.grownBy W' none):Ext W W':=⟨h.os,h.tape,h.output,h.size,fun k hk=>h.block k hk (fun q=>by cases q)⟩
theorem Qk2 (gb : Nat) (w:World) (hgb:w.heap[gb]? = some (.cells (cat [#[.slice none 0 0],#[.bool false]]) 49)):Calls Tryd.prog 16 #[.pointer (some ⟨gb,0,none⟩)] w (Ret w (.pointer none)):=by
  refine enter 24 [(0,.pointer (some ⟨gb,0,none⟩))] Tryd.func16 rfl rfl kj rfl ?_
  refine wp_seq_k fun K2 hK2=>?_
  refine Qae ?_
  refine Qab (.pointer none) 2 rfl kj kj ?_
  refine Qal ?_
  refine hK2 _ _ ?_
  refine wp_seq_k fun K3 hK3=>?_
  refine wp_seq_k fun K4 hK4=>?_
  refine Qae ?_
  refine Qab (.pointer (some ⟨gb,0,none⟩)) 3 rfl kj kj ?_
  refine Qab (.bool false) 4 rfl kj kj ?_
  refine Qab (.bool false) 5 rfl kj kj ?_
  refine Qab (.pointer (some ⟨gb,0,none⟩)) 6 rfl kj kj ?_
  refine Qab (.pointer (some ⟨gb,0,none⟩)) 7 rfl kj kj ?_
  refine Qab (.pointer (some ⟨gb,0,none⟩)) 8 rfl kj kj ?_
  refine Qab (.slice none 0 0) 9 rfl kj (Qad 47 _ gb 0 49 _ (.slice none 0 0) _ hgb rfl kj kj kj) ?_
  refine Qab (.int .i64 0) 10 rfl kj kj ?_
  refine Qab (.bool true) 11 rfl kj kj ?_
  refine Qab (.bool true) 12 rfl kj kj ?_
  refine Qal ?_
  refine hK4 _ _ ?_
  refine cond_true kj ?_
  refine wp_seq_k fun K5 hK5=>?_
  refine Qae ?_
  refine Qab (.pointer none) 2 rfl kj kj ?_
  refine Qal ?_
  refine hK5 _ _ ?_
  refine wp_ret ?_
  exact (show bodyPost _ _ _ .ret _ _ from ret1 (.pointer none) rfl (Qaz kj) ⟨rfl,(zbr w)⟩)
end Pk
end
section
namespace Pk
open Go Go.RowKit
open Rely Auto Own Sha
open Cha
open Ae hiding run_storeQ
open Cn hiding nb_new run_extractT
theorem Qk9 {P : Program} {ρ:Operand→Value} {o:Oper} {W:World} (b:Nat) (s x:Operand) (t:TypeId) (ho:o.op=.call { callee:=.builtin .append,args:=#[s,x],argTypes:=#[t,t] }) (ht:P.underlying t=some (.slice 55))
    (hi:(P.info? 55).map (fun i=>(i.zero.map (·.cells.size),i.size,i.bytes))=some (some 35,35,b)) (hb8:b≤1000) {base:Nat} {sec:List Int} {k:Nat} {grp:List Int} {num leaf:Int} (hs:ρ s=.slice none 0 0) (hx:SlF base sec k grp num leaf (ρ x) W) (hgl:grp.length=32) (hbase:base≤W.heap.size) :
    ∃ v W',(execOp ρ o).run P W=.ok (.value v) W'∧Ext W W'∧OnF base sec k grp num leaf v W':=by
  obtain ⟨g0,e,eg,hr0,hE⟩:=hx
  have hel:e.grp.length=32:=by rw [hE.1]; exact hgl
  obtain ⟨v',W',h1,h2,h3,-⟩:=OwE.app (ρ:=ρ) b s x t ho ht hi hb8 hs eg (OwE.nil base W) hel hr0 (za5 _) hbase
  have hx:=Qeb h3
  exact ⟨v',W',h1,hx,e,h2,hE.ext hx⟩
theorem OwE.ge {base : Nat} {es:List Ep} {v:Value} {W:World} (h:OwE base es v W) {k:Nat} (e:v.ownBlock=some k):base≤k:=by
  rcases h.row.2 with ⟨rfl,_⟩ | ⟨g',c,cur,rfl,q2,q3,_⟩
  · cases e
  · obtain rfl:g'=k:=Option.some.inj e
    exact q2
theorem OwE.off {base g:Nat} {es:List Ep} {v:Value} {W:World} (h:OwE base es v W) (hg:g<base):v.ownBlock=none∨v.ownBlock≠some g:=by
  cases e:v.ownBlock with
  | none=>exact .inl rfl
  | some k =>
    refine .inr fun e2=>?_
    have:=h.ge e
    obtain rfl:=Option.some.inj e2
    omega
theorem OwE.extB {base g:Nat} {es:List Ep} {v:Value} {W W':World} (h:OwE base es v W) (q:ExtB g W W') (hg:g<base):OwE base es v W' :=
  ⟨h.row.kept (row:=some g) ⟨q.1,q.2.1,q.2.2.1,q.2.2.2.1,fun k hk hn=>q.2.2.2.2 k hk fun e=>hn (by rw [e])⟩ (h.off hg),h.len⟩
theorem ChN.extB {base g:Nat} {sec:List Int} {k:Nat} {v:Value} {W W':World} {c:Array Value} (h:ChN base sec k v W) (q:ExtB g W W') (hg:g<base) (r:W.heap[g]? = some (.cells c 49)):ChN base sec k v W':=by
  obtain ⟨w0,h0,gc,gl,cap,lp,ns,h1,h2,h3,h4,h5,h6,h7,h8⟩:=h
  refine ⟨w0,h0,gc,gl,cap,lp,ns,h1,h2,h3,zbx q h4 (by omega),zbx q h5 (fun e=>by subst e; exact Qh8 h5 r (by decide)),fun j p hp=>?_,h7,h8⟩
  obtain ⟨a1,a2,a3,a4⟩:=h6 j p hp
  exact ⟨a1,a2.keep (q.2.2.2.2 _ a2.glt (by omega)) (q.2.2.2.2 _ a2.mp.lt (by omega)),a3,a4⟩
theorem EpIs.extB {base g:Nat} {sec:List Int} {k:Nat} {grp:List Int} {num leaf:Int} {e:Ep} {W W':World} {c:Array Value} (h:EpIs base sec k grp num leaf e W) (q:ExtB g W W') (hg:g<base) (r:W.heap[g]? = some (.cells c 49)):EpIs base sec k grp num leaf e W':=⟨h.1,h.2.1,h.2.2.1,h.2.2.2.extB q hg r⟩
theorem OwE.base {a b:Nat} {es:List Ep} {v:Value} {W:World} (hab:a≤b) (h:OwE b es v W):OwE a es v W:=⟨⟨h.row.1,h.row.2.imp id fun ⟨g,c,cur,q1,q2,q3⟩=>⟨g,c,cur,q1,qT hab q2,q3⟩⟩,h.len⟩
theorem EpIs.base {a b:Nat} {sec:List Int} {k:Nat} {grp:List Int} {num leaf:Int} {e:Ep} {W:World} (hab:a≤b) (h:EpIs b sec k grp num leaf e W):EpIs a sec k grp num leaf e W:=⟨h.1,h.2.1,h.2.2.1,by obtain ⟨w0,h1,h2⟩:=h.2.2.2; exact ⟨w0,qT hab h1,h2⟩⟩
theorem Qh0 (g : Nat) (grp sec:List Int) (num leaf:Int) (k:Nat) (hk:k≤5) (hgl:grp.length=32) (hsl:sec.length=32) (hsb:Qai sec) (hn0:0≤num) (hn1:num≤4294967295) (hl0:0≤leaf) (hl1:leaf<((2^k:Nat):Int)) (tc tq:TypeId) (w:World) (hg:w.heap[g]? = some (.cells (cat [#[.slice none 0 0],#[.bool false]]) 49)) (hc:w.heap[4]? = some (.cells (ints .u64 QaR) tc)) (hq:w.heap[3]? = some (.cells (ints .u64 Qa9) tq)) (hT:Seat.TabAt w) :
  Calls Tryd.prog 7 #[.pointer (some ⟨g,0,none⟩),.agg (ints .u8 grp),.int .i64 num,.agg (ints .u8 sec),.int .i64 ((2^k:Nat):Int),.int .i64 leaf] w (fun x W=>x=.returned .nilIface∧ExtB g w W∧∃ (e:Ep) (v:Value),W.heap[g]? = some (.cells (cat [#[v],#[.bool false]]) 49)∧OwE w.heap.size [e] v W∧EpIs w.heap.size sec k grp num leaf e W):=by
 have h2k:0<2^k:=za1 (by decide)
 refine enter 94 [(0,.pointer (some ⟨g,0,none⟩)),(1,.agg (ints .u8 (grp))),(2,.int .i64 num),(3,.agg (ints .u8 (sec))),(4,.int .i64 ((2^k:Nat):Int)),(5,.int .i64 leaf)] Tryd.func7 rfl rfl kj rfl ?_
 refine wp_seq_k fun K4 hK4=>?_
 refine Qae ?_
 refine Qar (ints .u8 (grp)) 29 7 rfl kj kj fun g5 W1 l5 e1 r5_1=>?_
 have x1:Ext w W1:=zbu (zbr w) e1
 have b5:w.heap.size≤g5:=qT (zbr w).size l5
 refine Qar (ints .u8 (sec)) 29 9 rfl kj kj fun g6 W2 l6 e2 r6_2=>?_
 have x2:Ext w W2:=zbu x1 e2
 have b6:w.heap.size≤g6:=qT x1.size l6
 refine Qab (.nilIface) 12 rfl kj kj ?_
 refine Qal ?_
 refine hK4 _ _ ?_
 refine wp_seq_k fun K7 hK7=>?_
 refine wp_seq_k fun K8 hK8=>?_
 refine Qae ?_
 refine Qab (.pointer (some ⟨g,0,none⟩)) 14 rfl kj kj ?_
 refine Qab (.bool false) 15 rfl kj kj ?_
 refine Qab (.bool false) 16 rfl kj kj ?_
 refine Qab (.pointer (some ⟨g,0,none⟩)) 17 rfl kj kj ?_
 refine Qab (.pointer (some ⟨g,0,none⟩)) 18 rfl kj kj ?_
 refine Qab (.pointer (some ⟨g,1,none⟩)) 19 rfl kj kj ?_
 have r1_1:=(Qaa hg e1)
 have r1_2:=(Qaa r1_1 e2)
 refine Qab (.bool false) 20 rfl kj (Qad 4 _ g 1 49 _ (.bool false) _ r1_2 rfl kj kj kj) ?_
 refine Qab (.bool false) 21 rfl kj kj ?_
 refine Qal ?_
 refine hK8 _ _ ?_
 refine cond_false kj ?_
 refine wp_skip ?_
 refine hK7 _ _ ?_
 refine wp_seq_k fun K9 hK9=>?_
 refine wp_seq_k fun K10 hK10=>?_
 refine Qae ?_
 refine Qab (.int .i64 ((2^k:Nat):Int)) 23 rfl kj kj ?_
 refine Qau (.int .i64 (((2^k:Nat):Int)-1)) 15 #[.int .i64 ((2^k:Nat):Int)] 24 rfl kj kj ((Qmy k hk) _) fun W3 e3=>?_
 have x3:Ext w W3:=zbu x2 e3
 refine Qab (.bool false) 25 rfl kj (Qah (u:=.bool (decide ((((2^k:Nat):Int)-1)<0))) kj (congrArg zax (decide_eq_false (by omega)))) ?_
 refine Qab (.bool false) 26 rfl kj kj ?_
 refine Qab (.int .i64 leaf) 27 rfl kj kj ?_
 refine Qab (.bool false) 28 rfl kj (Qah (u:=.bool (decide (leaf<0))) kj (congrArg zax (decide_eq_false (by omega)))) ?_
 refine Qab (.bool false) 29 rfl kj kj ?_
 refine Qab (.bool false) 30 rfl kj kj ?_
 refine Qab (.int .i64 leaf) 31 rfl kj kj ?_
 refine Qab (.int .i64 ((2^k:Nat):Int)) 32 rfl kj kj ?_
 refine Qab (.bool false) 33 rfl kj (Qah (u:=.bool (decide (leaf≥((2^k:Nat):Int)))) kj (congrArg zax (decide_eq_false (by omega)))) ?_
 refine Qab (.bool false) 34 rfl kj kj ?_
 refine Qal ?_
 refine hK10 _ _ ?_
 refine cond_false kj ?_
 refine wp_skip ?_
 refine hK9 _ _ ?_
 refine wp_seq_k fun K11 hK11=>?_
 refine wp_seq_k fun K12 hK12=>?_
 refine Qae ?_
 refine Qab (.int .i64 num) 36 rfl kj kj ?_
 refine Qab (.bool false) 37 rfl kj (Qah (u:=.bool (decide (num<0))) kj (congrArg zax (decide_eq_false (by omega)))) ?_
 refine Qab (.bool false) 38 rfl kj kj ?_
 refine Qab (.int .i64 num) 39 rfl kj kj ?_
 refine Qab (.bool false) 40 rfl kj (Qah (u:=.bool (decide (num>4294967295))) kj (congrArg zax (decide_eq_false (by omega)))) ?_
 refine Qab (.bool false) 41 rfl kj kj ?_
 refine Qal ?_
 refine hK12 _ _ ?_
 refine cond_false kj ?_
 refine wp_skip ?_
 refine hK11 _ _ ?_
 refine wp_seq_k fun K13 hK13=>?_
 refine wp_seq_k fun K14 hK14=>?_
 refine Qae ?_
 refine Qab (.pointer (some ⟨g,0,none⟩)) 43 rfl kj kj ?_
 have r1_3:=(Qaa r1_2 e3)
 refine Qau (.pointer none) 16 #[.pointer (some ⟨g,0,none⟩)] 44 rfl kj kj (Qk2 g _ r1_3) fun W4 e4=>?_
 have x4:Ext w W4:=zbu x3 e4
 refine Qab (.pointer none) 13 rfl kj kj ?_
 refine Qal ?_
 refine hK14 _ _ ?_
 refine wp_seq_k fun K15 hK15=>?_
 refine QaL 18 [⟨none,[(13,none)]⟩,⟨none,[(45,some 0)]⟩,⟨none,[(46,some 1)]⟩,⟨some (47,true),[(2,none),(47,some 2)]⟩,⟨some (47,true),[(13,none),(47,some 2)]⟩,⟨some (47,true),[(49,some 4),(47,some 2)]⟩,⟨some (47,true),[(50,some 5),(47,some 2)]⟩,⟨some (47,true),[(51,some 6),(47,some 2)]⟩,⟨some (47,true),[(48,some 3),(52,some 7),(47,some 2)]⟩,⟨some (47,true),[(53,some 8),(47,some 2)]⟩,⟨some (54,false),[(7,none),(54,some 9)]⟩,⟨some (54,false),[(13,none),(54,some 9)]⟩,⟨some (54,false),[(56,some 11),(54,some 9)]⟩,⟨some (54,false),[(57,some 12),(54,some 9)]⟩,⟨some (54,false),[(58,some 13),(54,some 9)]⟩,⟨some (54,false),[(55,some 10),(59,some 14),(54,some 9)]⟩,⟨some (47,true),[(54,some 9),(60,some 15),(47,some 2)]⟩,⟨none,[(47,some 2),(61,some 16)]⟩] kj kj fun F hF=>?_
 refine Qak (.pointer none) kj kj (fun W=>by kernel_rfl) ?_
 refine Qak (.bool false) kj kj (fun W=>by kernel_rfl) ?_
 refine Qak (.bool false) kj kj (fun W=>by kernel_rfl) ?_
 refine Qbq kj kj ?_
 refine Qbq kj kj ?_
 refine Qbq kj kj ?_
 refine Qbq kj kj ?_
 refine Qbq kj kj ?_
 refine Qbq kj kj ?_
 refine Qbq kj kj ?_
 refine Qbq kj kj ?_
 refine Qbq kj kj ?_
 refine Qbq kj kj ?_
 refine Qbq kj kj ?_
 refine Qbq kj kj ?_
 refine Qbq kj kj ?_
 refine Qbq kj kj ?_
 refine Qak (.bool false) kj kj (fun W=>by kernel_rfl) ?_
 refine QaQ (hF _ kj fun W5 e5=>?_)
 simp only [ups,up,Kn.val,zaB,zaC,zaD,zaE,za0,zaF]
 clear hF
 have x5:Ext w W5:=zbu x4 e5
 refine Qal ?_
 refine hK15 _ _ ?_
 refine cond_false kj ?_
 refine wp_skip ?_
 refine hK13 _ _ ?_
 refine wp_seq_k fun K16 hK16=>?_
 refine Qbg 14 [⟨none,[(0,none)]⟩,⟨none,[(0,none)]⟩,⟨none,[(65,some 1)]⟩,⟨none,[(66,some 2)]⟩,⟨none,[(67,some 3)]⟩,⟨none,[(9,none)]⟩,⟨none,[(4,none)]⟩,⟨none,[(69,some 5),(70,some 6)]⟩,⟨none,[(7,none)]⟩,⟨none,[(2,none)]⟩,⟨none,[(5,none)]⟩,⟨none,[(71,some 7),(72,some 8),(73,some 9),(74,some 10)]⟩,⟨none,[(75,some 11)]⟩,⟨none,[(68,some 4),(76,some 12)]⟩] kj kj fun F hF=>?_
 refine Qa8 (Qas _) (.pointer (some ⟨g,0,none⟩)) kj kj (fun W=>by kernel_rfl) ?_
 refine Qa8 (Qas _) (.pointer (some ⟨g,0,none⟩)) kj kj (fun W=>by kernel_rfl) ?_
 refine Qa8 (Qas _) (.pointer (some ⟨g,0,none⟩)) kj kj (fun W=>by kernel_rfl) ?_
 refine Qa8 (Qas _) (.pointer (some ⟨g,0,none⟩)) kj kj (fun W=>by kernel_rfl) ?_
 have r1_4:=(Qaa r1_3 e4)
 have r1_5:=(Qaa r1_4 e5)
 refine Qbc (Qas _) (.slice none 0 0) kj kj (fun W hR=>(Qad 47 _ g 0 49 _ (.slice none 0 0) _ (Qaa (Qaa r1_5 (Qaj _)) hR) rfl kj kj kj)) ?_
 have r6_3:=(Qaa r6_2 e3)
 have r6_4:=(Qaa r6_3 e4)
 have r6_5:=(Qaa r6_4 e5)
 refine Qbc (Qas _) (.agg (ints .u8 (sec))) kj kj (fun W hR=>(Qap 29 _ g6 29 _ _ (Qaa (Qaa r6_5 (Qaj _)) hR) rfl kj kj (isz (n:=32) kj ((Qat _ _).trans hsl)))) ?_
 refine Qa8 (Qas _) (.int .i64 ((2^k:Nat):Int)) kj kj (fun W=>by kernel_rfl) ?_
 have r2_1:=(Qaa hc e1)
 have r2_2:=(Qaa r2_1 e2)
 have r2_3:=(Qaa r2_2 e3)
 have r2_4:=(Qaa r2_3 e4)
 have r2_5:=(Qaa r2_4 e5)
 have r3_1:=(Qaa hq e1)
 have r3_2:=(Qaa r3_1 e2)
 have r3_3:=(Qaa r3_2 e3)
 have r3_4:=(Qaa r3_3 e4)
 have r3_5:=(Qaa r3_4 e5)
 refine QdP (Qas _) (ChN W5.heap.size sec k) (ChN.stable _ _ _) 17 #[.agg (ints .u8 (sec)),.int .i64 ((2^k:Nat):Int)] kj kj (fun W=>by kernel_rfl) (fun W hR=>(fun _=>(newC k hk sec tc tq W (Qaa (Qaa r2_5 (Qaj _)) hR) (Qaa (Qaa r3_5 (Qaj _)) hR) (hT.ext (zbs (zbs x5 (Qaj _)) hR)) hsl hsb).mono fun e W' ⟨v,h1,h2,h3⟩=>⟨v,h1,h2,W,hR.size,h3⟩) W) ?_
 have r5_2:=(Qaa r5_1 e2)
 have r5_3:=(Qaa r5_2 e3)
 have r5_4:=(Qaa r5_3 e4)
 have r5_5:=(Qaa r5_4 e5)
 refine Qbc (Qas _) (.agg (ints .u8 (grp))) kj kj (fun W hR=>(Qap 29 _ g5 29 _ _ (Qaa (Qaa r5_5 (Qaj _)) hR) rfl kj kj (isz (n:=32) kj ((Qat _ _).trans hgl)))) ?_
 refine Qa8 (Qas _) (.int .i64 num) kj kj (fun W=>by kernel_rfl) ?_
 refine Qa8 (Qas _) (.int .i64 leaf) kj kj (fun W=>by kernel_rfl) ?_
 refine Qim (Qas _) (EpF W5.heap.size sec k grp num leaf) (EpF.stable _ _ _ _ _ _) (fun ρ W hR hh=>?_) ?_
 ·skip
  have hC:ChN W5.heap.size sec k (ρ 71) W:=hh.1
  have e72:ρ 72=.agg (ints .u8 grp):=hh.2.1
  have e73:ρ 73=.int .i64 num:=hh.2.2.1
  have e74:ρ 74=.int .i64 leaf:=hh.2.2.2.1
  obtain ⟨gc,egc⟩:∃ gc:Nat,ρ 71=.pointer (some ⟨gc,0,none⟩):=by
   obtain ⟨w0,h0,gc,gl,cap,lp,ns,h1,-⟩:=hC
   exact ⟨gc,h1⟩
  rw [egc] at hC
  exact ⟨_,W,QlT (.tmp 71) (.tmp 72) (.tmp 73) (.tmp 74) ⟨gc,grp,num,leaf⟩ rfl egc e72 e73 e74 hgl,zbr _,⟨gc,grp,num,leaf⟩,rfl,rfl,rfl,rfl,hC⟩
 refine Qim (Qas _) (SlF W5.heap.size sec k grp num leaf) (SlF.stable _ _ _ _ _ _) (fun ρ W hR hh=>?_) ?_
 ·skip
  obtain ⟨e,ee,hE⟩:EpF W5.heap.size sec k grp num leaf (ρ 75) W:=hh.1
  have hel:e.grp.length=32:=by rw [hE.1]; exact hgl
  exact ⟨_,_,Qhh 47 55 35 (.tmp 75) (.agg (cat (epP e))) rfl ee kj kj kj (Qdi e hel) (by decide) (by decide),Qbb _ _,W.heap.size,e,rfl,heap_alloc_new _ _,hE.ext (Qbb _ _)⟩
 refine Qim (Qas _) (OnF W5.heap.size sec k grp num leaf) (OnF.stable _ _ _ _ _ _) (fun ρ W hR hh=>?_) ?_
 ·skip
  exact Qk9 (P:=Tryd.prog) (ρ:=Rely.look ρ) 56 (.tmp 68) (.tmp 76) 47 rfl kj kj (by decide) (show ρ 68=.slice none 0 0 from hh.1) (show SlF W5.heap.size sec k grp num leaf (ρ 76) W from hh.2.1) hgl hR.size
 refine QcO (hF _ fun W6 e6=>?_)
 simp only [za0,zaF,zaB,zaC,zaD,zaE,finE,up]
 intro vv17 hv17 vv18 hv18 vv19 hv19 vv20 hv20
 clear hF
 have x6:Ext w W6:=zbu x5 e6
 obtain ⟨ep,ho,hE⟩:=hv20
 obtain ⟨ge,ce,cur,rfl,lge,rge,hcur⟩:=OwE.one ho
 refine Qab (.pointer (some ⟨g,0,none⟩)) 78 rfl kj kj ?_
 refine Qab (.pointer (some ⟨g,0,none⟩)) 79 rfl kj kj ?_
 have r1_6:=(Qaa r1_5 e6)
 have xb6:ExtB g w W6:=ExtB.ext (zbv g w) x6
 refine Qan g _ (cat [#[.slice (some ⟨ge,0,none⟩) 1 ce],#[.bool false]]) 49 r1_6 rfl kj (Qbd 47 _ _ g 0 49 _ (.slice (some ⟨ge,0,none⟩) 1 ce) r1_6 rfl kj kj kj kj kj rfl) fun W7 p7 r1_7=>?_
 have x7:ExtB g w W7:=zbw xb6 p7
 have hlt:g<W5.heap.size:=qL (Qaq hg) x5.size
 have hqB:ExtB g W6 W7:=zbw (zbv g _) p7
 have hO2:=OwE.base x5.size (OwE.extB ho hqB hlt)
 have hE2:=EpIs.base x5.size (EpIs.extB hE hqB hlt r1_6)
 refine Qal ?_
 refine hK16 _ _ ?_
 refine wp_seq_k fun K21 hK21=>?_
 refine wp_seq_k fun K22 hK22=>?_
 refine Qae ?_
 refine Qab (.pointer (some ⟨g,0,none⟩)) 80 rfl kj kj ?_
 refine Qab (.pointer (some ⟨g,0,none⟩)) 81 rfl kj kj ?_
 refine Qab (.pointer (some ⟨g,0,none⟩)) 82 rfl kj kj ?_
 refine Qab (.slice (some ⟨ge,0,none⟩) 1 ce) 83 rfl kj (Qad 47 _ g 0 49 _ (.slice (some ⟨ge,0,none⟩) 1 ce) _ r1_7 rfl kj kj kj) ?_
 refine Qab (.int .i64 1) 84 rfl kj kj ?_
 refine Qab (.bool false) 85 rfl kj kj ?_
 refine Qal ?_
 refine hK22 _ _ ?_
 refine cond_false kj ?_
 refine wp_skip ?_
 refine hK21 _ _ ?_
 refine wp_seq_k fun K23 hK23=>?_
 refine Qae ?_
 refine Qab (.nilIface) 12 rfl kj kj ?_
 refine Qal ?_
 refine hK23 _ _ ?_
 refine wp_ret ?_
 exact (show bodyPost _ _ _ .ret _ _ from ret1 (.nilIface) rfl (Qaz kj) ⟨rfl,x7,_,_,r1_7,hO2,hE2⟩)
end Pk
end
section
namespace Pk
open Go Go.RowKit
open Rely Auto Own Sha
open Cha
open Ae hiding run_storeQ
open Cn
theorem QgS (grp : List Int) (hgl:grp.length=32) (a_t:Option Addr) (n_t c_t:Nat) (w:World):Calls Tryd.prog 21 #[.agg (cat [ints .u8 grp,#[.int .i64 0],#[.int .i64 0],#[.int .i64 0],#[.slice a_t n_t c_t]])] w (QbF w (OwnN .u8 5 w.heap.size (grp++[0,0,0,0]++[0]++[0,0,0,0]))):=by
  refine enter 50 [(0,.agg (cat [ints .u8 (grp),#[.int .i64 0],#[.int .i64 0],#[.int .i64 0],#[.slice a_t n_t c_t]]))] Tryd.func21 rfl rfl kj rfl ?_
  refine wp_seq_k fun K1 hK1=>?_
  refine Qae ?_
  refine Qar (cat [ints .u8 (grp),#[.int .i64 0],#[.int .i64 0],#[.int .i64 0],#[.slice a_t n_t c_t]]) 35 1 rfl kj kj fun g2 W1 l2 e1 r2_1=>?_
  have x1:Ext w W1:=zbu (zbr w) e1
  have b2:w.heap.size≤g2:=qT (zbr w).size l2
  refine Qab (.slice none 0 0) 2 rfl kj kj ?_
  refine Qal ?_
  refine hK1 _ _ ?_
  refine wp_seq_k fun K3 hK3=>?_
  refine Qae ?_
  refine QaU (ints .u8 ([])) 5 0 4 rfl kj kj fun g4 W2 l4 e2 r4_2=>?_
  have x2:Ext w W2:=zbu x1 e2
  have b4:w.heap.size≤g4:=qT x1.size l4
  refine Qab (.pointer (some ⟨g2,0,none⟩)) 5 rfl kj kj ?_
  refine Qab (.slice (some ⟨g2,0,none⟩) 32 32) 6 rfl kj kj ?_
  have r2_2:=(Qaa r2_1 e2)
  have y1_2:Ext W1 W2:=(zbs (zbr W1) e2)
  refine Qbk (k:=.u8) (T:=5) (xs:=[]) (ys:=grp) (V:=W1) 1 (.tmp 4) (.tmp 6) 33 rfl kj kj (by decide) 7 rfl kj kj kj (Qcu (xs:=[]) rfl l4 r4_2 (by decide)) (QdK 0 hgl r2_2 (fun i hi=>QdB [] [#[.int .i64 0],#[.int .i64 0],#[.int .i64 0],#[.slice a_t n_t c_t]] grp 0 i (0+i) kj rfl (by rw [hgl]; exact hi)) (Qaq r2_2) (qR _) (by decide)) (by simp [hgl]) y1_2 fun u1 W3 f5 y3 l3=>?_
  have x3:Ext w W3:=Ext.low x2 l3 x1.size
  refine Qab (u1) 3 rfl kj kj ?_
  refine Qal ?_
  refine hK3 _ _ ?_
  refine wp_seq_k fun K7 hK7=>?_
  refine Qae ?_
  refine Qab (u1) 8 rfl kj kj ?_
  refine Qab (.pointer (some ⟨g2,32,none⟩)) 9 rfl kj kj ?_
  have r2_3:=(Qb6 l3 r2_2 (Qaq r2_1))
  refine Qab (.int .i64 0) 10 rfl kj (Qad 3 _ g2 32 35 _ (.int .i64 0) _ r2_3 rfl kj (Qam [ints .u8 (grp)] [#[.int .i64 0]] [#[.int .i64 0],#[.int .i64 0],#[.slice a_t n_t c_t]] 32 ((Qat _ _).trans hgl) 0 _ rfl) kj) ?_
  refine Qab (.int .i64 0) 11 rfl kj kj ?_
  refine Qab (.int .u8 0) 12 rfl kj kj ?_
  refine Qab (.pointer (some ⟨g2,32,none⟩)) 13 rfl kj kj ?_
  refine Qab (.int .i64 0) 14 rfl kj (Qad 3 _ g2 32 35 _ (.int .i64 0) _ r2_3 rfl kj (Qam [ints .u8 (grp)] [#[.int .i64 0]] [#[.int .i64 0],#[.int .i64 0],#[.slice a_t n_t c_t]] 32 ((Qat _ _).trans hgl) 0 _ rfl) kj) ?_
  refine Qab (.int .i64 0) 15 rfl kj kj ?_
  refine Qab (.int .u8 0) 16 rfl kj kj ?_
  refine Qab (.pointer (some ⟨g2,32,none⟩)) 17 rfl kj kj ?_
  refine Qab (.int .i64 0) 18 rfl kj (Qad 3 _ g2 32 35 _ (.int .i64 0) _ r2_3 rfl kj (Qam [ints .u8 (grp)] [#[.int .i64 0]] [#[.int .i64 0],#[.int .i64 0],#[.slice a_t n_t c_t]] 32 ((Qat _ _).trans hgl) 0 _ rfl) kj) ?_
  refine Qab (.int .i64 0) 19 rfl kj kj ?_
  refine Qab (.int .u8 0) 20 rfl kj kj ?_
  refine Qab (.pointer (some ⟨g2,32,none⟩)) 21 rfl kj kj ?_
  refine Qab (.int .i64 0) 22 rfl kj (Qad 3 _ g2 32 35 _ (.int .i64 0) _ r2_3 rfl kj (Qam [ints .u8 (grp)] [#[.int .i64 0]] [#[.int .i64 0],#[.int .i64 0],#[.slice a_t n_t c_t]] 32 ((Qat _ _).trans hgl) 0 _ rfl) kj) ?_
  refine Qab (.int .u8 0) 23 rfl kj kj ?_
  refine QaU (ints .u8 ([0,0,0,0])) 5 4 24 rfl kj kj fun g8 W4 l8 e4 r8_4=>?_
  have x4:Ext w W4:=zbu x3 e4
  have b8:w.heap.size≤g8:=qT x3.size l8
  have f9_4:=(f5.ext e4)
  have y1_4:Ext W1 W4:=(zbs y3 e4)
  refine Qbk (k:=.u8) (T:=5) (xs:=[]++grp) (ys:=[0,0,0,0]) (V:=W1) 1 (.tmp 8) (.tmp 24) 33 rfl kj kj (by decide) 25 rfl kj kj kj f9_4 (Qbp (xs:=[0,0,0,0]) (n:=4) rfl r8_4 (Qaq r8_4) (show 4≤maxLen from by decide)) (by simp [hgl]) y1_4 fun u2 W5 f10 y5 l5=>?_
  have x5:Ext w W5:=Ext.low x4 l5 x1.size
  refine Qab (u2) 3 rfl kj kj ?_
  refine Qal ?_
  refine hK7 _ _ ?_
  refine wp_seq_k fun K12 hK12=>?_
  refine Qae ?_
  refine Qab (u2) 26 rfl kj kj ?_
  refine Qab (.pointer (some ⟨g2,33,none⟩)) 27 rfl kj kj ?_
  have r2_4:=(Qaa r2_3 e4)
  have r2_5:=(Qb6 l5 r2_4 (Qaq r2_1))
  refine Qab (.int .i64 0) 28 rfl kj (Qad 3 _ g2 33 35 _ (.int .i64 0) _ r2_5 rfl kj (Qam [ints .u8 (grp),#[.int .i64 0]] [#[.int .i64 0]] [#[.int .i64 0],#[.slice a_t n_t c_t]] 33 (by rw [Qac,Qac]; simp only [qS,cat,((Qat _ _).trans hgl)]; rfl) 0 _ rfl) kj) ?_
  refine Qab (.int .u8 0) 29 rfl kj kj ?_
  refine QaU (ints .u8 ([0])) 5 1 30 rfl kj kj fun g13 W6 l13 e6 r13_6=>?_
  have x6:Ext w W6:=zbu x5 e6
  have b13:w.heap.size≤g13:=qT x5.size l13
  have f14_6:=(f10.ext e6)
  have y1_6:Ext W1 W6:=(zbs y5 e6)
  refine Qbk (k:=.u8) (T:=5) (xs:=[]++grp++[0,0,0,0]) (ys:=[0]) (V:=W1) 1 (.tmp 26) (.tmp 30) 33 rfl kj kj (by decide) 31 rfl kj kj kj f14_6 (Qbp (xs:=[0]) (n:=1) rfl r13_6 (Qaq r13_6) (show 1≤maxLen from by decide)) (by simp [hgl]) y1_6 fun u3 W7 f15 y7 l7=>?_
  have x7:Ext w W7:=Ext.low x6 l7 x1.size
  refine Qab (u3) 3 rfl kj kj ?_
  refine Qal ?_
  refine hK12 _ _ ?_
  refine wp_seq_k fun K17 hK17=>?_
  refine Qae ?_
  refine Qab (u3) 32 rfl kj kj ?_
  refine Qab (.pointer (some ⟨g2,34,none⟩)) 33 rfl kj kj ?_
  have r2_6:=(Qaa r2_5 e6)
  have r2_7:=(Qb6 l7 r2_6 (Qaq r2_1))
  refine Qab (.int .i64 0) 34 rfl kj (Qad 3 _ g2 34 35 _ (.int .i64 0) _ r2_7 rfl kj (Qam [ints .u8 (grp),#[.int .i64 0],#[.int .i64 0]] [#[.int .i64 0]] [#[.slice a_t n_t c_t]] 34 (by rw [Qac,Qac,Qac]; simp only [qS,cat,((Qat _ _).trans hgl)]; rfl) 0 _ rfl) kj) ?_
  refine Qab (.int .i64 0) 35 rfl kj kj ?_
  refine Qab (.int .u8 0) 36 rfl kj kj ?_
  refine Qab (.pointer (some ⟨g2,34,none⟩)) 37 rfl kj kj ?_
  refine Qab (.int .i64 0) 38 rfl kj (Qad 3 _ g2 34 35 _ (.int .i64 0) _ r2_7 rfl kj (Qam [ints .u8 (grp),#[.int .i64 0],#[.int .i64 0]] [#[.int .i64 0]] [#[.slice a_t n_t c_t]] 34 (by rw [Qac,Qac,Qac]; simp only [qS,cat,((Qat _ _).trans hgl)]; rfl) 0 _ rfl) kj) ?_
  refine Qab (.int .i64 0) 39 rfl kj kj ?_
  refine Qab (.int .u8 0) 40 rfl kj kj ?_
  refine Qab (.pointer (some ⟨g2,34,none⟩)) 41 rfl kj kj ?_
  refine Qab (.int .i64 0) 42 rfl kj (Qad 3 _ g2 34 35 _ (.int .i64 0) _ r2_7 rfl kj (Qam [ints .u8 (grp),#[.int .i64 0],#[.int .i64 0]] [#[.int .i64 0]] [#[.slice a_t n_t c_t]] 34 (by rw [Qac,Qac,Qac]; simp only [qS,cat,((Qat _ _).trans hgl)]; rfl) 0 _ rfl) kj) ?_
  refine Qab (.int .i64 0) 43 rfl kj kj ?_
  refine Qab (.int .u8 0) 44 rfl kj kj ?_
  refine Qab (.pointer (some ⟨g2,34,none⟩)) 45 rfl kj kj ?_
  refine Qab (.int .i64 0) 46 rfl kj (Qad 3 _ g2 34 35 _ (.int .i64 0) _ r2_7 rfl kj (Qam [ints .u8 (grp),#[.int .i64 0],#[.int .i64 0]] [#[.int .i64 0]] [#[.slice a_t n_t c_t]] 34 (by rw [Qac,Qac,Qac]; simp only [qS,cat,((Qat _ _).trans hgl)]; rfl) 0 _ rfl) kj) ?_
  refine Qab (.int .u8 0) 47 rfl kj kj ?_
  refine QaU (ints .u8 ([0,0,0,0])) 5 4 48 rfl kj kj fun g18 W8 l18 e8 r18_8=>?_
  have x8:Ext w W8:=zbu x7 e8
  have b18:w.heap.size≤g18:=qT x7.size l18
  have f19_8:=(f15.ext e8)
  have y1_8:Ext W1 W8:=(zbs y7 e8)
  refine Qbk (k:=.u8) (T:=5) (xs:=[]++grp++[0,0,0,0]++[0]) (ys:=[0,0,0,0]) (V:=W1) 1 (.tmp 32) (.tmp 48) 33 rfl kj kj (by decide) 49 rfl kj kj kj f19_8 (Qbp (xs:=[0,0,0,0]) (n:=4) rfl r18_8 (Qaq r18_8) (show 4≤maxLen from by decide)) (by simp [hgl]) y1_8 fun u4 W9 f20 y9 l9=>?_
  have x9:Ext w W9:=Ext.low x8 l9 x1.size
  refine Qab (u4) 2 rfl kj kj ?_
  refine Qal ?_
  refine hK17 _ _ ?_
  refine wp_ret ?_
  exact (show bodyPost _ _ _ .ret _ _ from ret1 (u4) rfl (Qaz kj) ⟨_,rfl,x9,zby x1.size f20⟩)
end Pk
end
section
namespace Cn
open Go Go.RowKit
open Rely Auto Own Sha
theorem Qma (gc gl len cap:Nat) (lp:Array Value) (w:World) (hgc:w.heap[gc]? = some (.cells #[.slice (some ⟨gl,0,none⟩) len cap] 71)) (hgl:w.heap[gl]? = some (.cells lp 73)) (g i:Nat) (hi:i<len) (hli:lp[i]? = some (.pointer (some ⟨g,0,none⟩))) (tc tq:TypeId) (hc:w.heap[4]? = some (.cells (ints .u64 QaR) tc)) (hq:w.heap[3]? = some (.cells (ints .u64 Qa9) tq)) {mg pl:Nat} {s0 ts:List Int} {ms:List (Int×List Int)} (hch:ChSt g mg s0 ts pl ms w) (he:chkN ts pl ((pl:Nat):Int)=0) (hcg:4≠g) (hsg:3≠g):Calls Tryd.prog 19 #[.pointer (some ⟨gc,0,none⟩),.int .i64 ((i:Nat):Int)] w (fun e W=>∃ v,e=.returned (.tuple #[v,.nilIface])∧Qaf [g,mg] w W∧ChSt g mg s0 (ts++[((pl:Nat):Int)]) (max pl (pl+1)) (QcG ms s0 pl pl) W∧QbA w.heap.size ((pl:Nat):Int) (keyV (itV s0 pl)) v W):=by
  obtain ⟨B,hW,hrg⟩:=hch.row
  refine enter 23 [(0,.pointer (some ⟨gc,0,none⟩)),(1,.int .i64 ((i:Nat):Int))] Tryd.func19 rfl rfl kj rfl <| sgC fun K7 hK7=>Qar (cat [#[.int .i64 0],ints .u8 (zao 32 0),#[.slice none 0 0]]) 60 4 rfl kj kj fun g8 W1 l8 e1 r8_1=>?_
  have b8:=qT (zbr w).size l8
  refine sg 1 kj <| sgN hK7 <| sgC fun K9 hK9=>sg 2 kj ?_
  have r1_1:=(Qaa hgc e1)
  have r2_1:=(Qaa hgl e1)
  refine Qau (.pointer (some ⟨g,0,none⟩)) 32 #[.pointer (some ⟨gc,0,none⟩),.int .i64 ((i:Nat):Int)] 9 rfl kj kj (at_I gc gl len cap lp _ r1_1 r2_1 g i hi hli) fun W2 e2=>?_
  have x2:=zbu (zbu (zbr w) e1) e2
  refine sg 1 kj <| sgN hK9 <| wp_seq_k fun K10 hK10=>sgB kj <| cond_false kj <| wp_skip <| hK10 _ _ <| sgC fun K12 hK12=>sg 5 kj <| Qab (.int .i64 ((pl:Nat):Int)) 19 rfl kj (Qad 3 _ g 34 82 _ (.int .i64 ((pl:Nat):Int)) _ (Qaa (Qaa hrg e1) e2) rfl kj (Qam [#[.int .i64 ((pl:Nat):Int)],#[.int .u64 ((B:Nat):Int)],ints .u8 (itV s0 pl)] [#[.int .i64 ((pl:Nat):Int)]] [#[.map (some mg)]] 34 (by rw [Qac,Qac,Qac]; simp only [qS,cat,(izT (Qa4 hch.len pl))]; rfl) 0 _ rfl) kj) ?_
  refine Qav (fun v W'=>∃ u,v=.tuple #[u,.nilIface]∧Qaf [g,mg] W2 W'∧ChSt g mg s0 (ts++[((pl:Nat):Int)]) (max pl (pl+1)) (QcG ms s0 pl pl) W'∧QbA W2.heap.size ((pl:Nat):Int) (keyV (itV s0 pl)) u W') 26 #[.pointer (some ⟨gc,0,none⟩),.int .i64 ((i:Nat):Int),.int .i64 ((pl:Nat):Int)] 20 rfl kj kj ((Qjr gc gl len cap lp _ (Qaa r1_1 e2) (Qaa r2_1 e2) g i hi hli tc tq (Qaa (Qaa hc e1) e2) (Qaa (Qaa hq e1) e2) (hch.ext x2) pl he hcg hsg).mono (by rintro e w' ⟨v,rfl,q1,q2,q3⟩; exact ⟨_,rfl,_,rfl,q1,q2,q3⟩)) fun vv13 W3 hh13=>?_
  obtain ⟨uu13,rfl,q3,hch2,u13,rfl,hu13⟩:=hh13
  obtain ⟨a13_,c13_,rfl,-⟩:=id (zbz hu13)
  have x3:Qaf [g,mg] w W3:=zb3 (zb2 (zb0 [g,mg] w) x2) q3 (fun c hc=>.inl hc)
  refine sg 2 kj ?_
  have r8_2:=(Qaa r8_1 e2)
  have r8_3:=(zb1 q3 r8_2 (Qax (Ne.symm (zaz (qL hch.glt b8))) (Qax (Ne.symm (zaz (qL hch.mp.lt b8))) QaE)))
  refine Qan g8 _ (cat [#[.int .i64 ((pl:Nat):Int)],ints .u8 ((keyV (itV s0 pl)).take 32),#[.slice a13_ (((keyV (itV s0 pl)).drop 32).length) c13_]]) 60 r8_3 rfl kj (Qao 60 _ _ g8 60 _ _ r8_3 rfl kj kj (isz (n:=34) kj (by rw [Qac,Qac,Qac]; simp only [qS,cat,(izT (QaX (QaI _)))]; rfl)) (eqsz (n:=34) (by rw [Qac,Qac,Qac]; simp only [qS,cat,(izT (qZ (n:=32)))]; rfl) (by rw [Qac,Qac,Qac]; simp only [qS,cat,(izT (QaX (QaI _)))]; rfl)) (Qbn _ (by intro a ha; simp only [za7,zan,or_false] at ha; rcases ha with rfl | rfl | rfl; exact (Qa6 _ rfl); exact (Qay _ _); exact (Qa6 _ rfl)))) fun W4 p4 r8_4=>?_
  have x4:Qaf [g,mg] w W4:=Qaf.puts x3 p4 (.inr b8)
  refine sg 1 kj <| sgN hK12 <| wp_ret ?_
  repeat (first | with_reducible refine goR1 ?_ | with_reducible refine goR2 ?_)
  exact (show bodyPost _ _ _ .ret _ _ from ret2 (.agg (cat [#[.int .i64 ((pl:Nat):Int)],ints .u8 ((keyV (itV s0 pl)).take 32),#[.slice a13_ (((keyV (itV s0 pl)).drop 32).length) c13_]])) (.nilIface) rfl (QaP g8 60 _ r8_4 kj kj (isz (n:=34) kj (by rw [Qac,Qac,Qac]; simp only [qS,cat,(izT (QaX (QaI _)))]; rfl))) (Qaz kj) ⟨_,rfl,x4,(hch2.keep (p4.2.2.2.2 g (Ne.symm (Ne.symm (zaz (qL hch.glt b8))))) (p4.2.2.2.2 mg (Ne.symm (Ne.symm (zaz (qL hch.mp.lt b8)))))),_,rfl,zby x2.size (hu13.puts p4 (QbP hu13 (Qaq r8_2)))⟩)
end Cn
end
section
namespace Wk
open Go Go.RowKit
open Rely Auto Own Sha
variable {P : Program} {ops : Array Oper} {Q : Exit → Act → World → Prop}
def allR (P : Program) (ops:Array Oper) (Q:Exit→Act→World→Prop) (Rd:World→Prop):Nat→Array Bool→Act→World→Prop
  | 0,listed,a,w=>zaG .any ops listed=[]∧Q .normal a w
  | fuel+1,listed,a,w=>(zaG .any ops listed=[]→Q .normal a w)∧∀ i∈zaG .any ops listed,wpOp P ops Q i (fun a' w'=>Rd w'∧allR P ops Q Rd fuel (listed.setIfInBounds i true) a' w') a w
theorem Qir {Rd : World→Prop}:∀ (fuel:Nat) (listed:Array Bool) (a:Act) (w:World),allR P ops Q Rd fuel listed a w→wpAny P .any ops Q fuel listed a w
  | 0,_,_,_,h=>h
  | _+1,_,_,_,h=>⟨h.1,fun i hi=>wpOp_mono (fun a w h=>Qir _ _ a w h.2) (h.2 i hi)⟩
def Qcr (P : Program) (ops:Array Oper) (Rd:World→Prop) (o:Oper) (v:Value) (a:Act):Prop :=
  (zaH o (yielded ops a.tmps)=true∧∀ w,Rd w→(execOp a.eval o).run P w=.ok (.value v) w)∨(zaH o (yielded ops a.tmps)=false∧v=undef)
theorem Qcr.wpOp {Rd : World→Prop} {i:Nat} {o:Oper} {v:Value} {a:Act} (hi:ops[i]? = some o) (hy:Qcr P ops Rd o v a) {K:Act→World→Prop} {w:World} (hw:Rd w) (h:K (a.put o.dst v) w):wpOp P ops Q i K a w:=by
  unfold Go.wpOp
  simp only [hi]
  rcases hy with ⟨hw1,hv⟩ | ⟨hw1,rfl⟩
  · simp only [hw1,if_true,Oper.wp,hv w hw,Oper.upon]; exact .inl h
  · simp only [hw1,Bool.false_eq_true,if_false]; exact h
theorem Qcr.same {Rd : World→Prop} {o:Oper} {v:Value} {a a':Act} (hy:Qcr P ops Rd o v a) (he:execOp a'.eval o=execOp a.eval o) (hw:zaH o (yielded ops a'.tmps)=zaH o (yielded ops a.tmps)):Qcr P ops Rd o v a':=by
  unfold Qcr at *
  rw [he,hw]
  exact hy
theorem QjK {Rd : World→Prop} {j:Nat} {oi oj:Oper} {v:Value} (hj:ops[j]? = some oj) (hap:oi.apart ops oj=true) (hsi:∀ cs b,oi.op≠.select cs b) (hsj:∀ cs b,oj.op≠.select cs b)
    (hQ:∀ c a w,Q (.panic c) (a.put oi.dst v) w→Q (.panic c) a w) {K:Act→World→Prop} {a:Act} {w:World} (hy:Qcr P ops Rd oi v a) (h:wpOp P ops Q j K (a.put oi.dst v) w) :
    wpOp P ops Q j (fun a' w'=>Qcr P ops Rd oi v a'∧K (a'.put oi.dst v) w') a w:=by
  obtain ⟨h1,h2,h3⟩:=Oper.apart_spec hap
  have keep:∀ (a:Act),Qcr P ops Rd oi v a→∀ u,Qcr P ops Rd oi v (a.put oj.dst u):=fun a hy u=>hy.same (execOp_put oi hsi a oj.dst u h3) (wanted_put oi a oj.dst u h3)
  have keepD:∀ d,Qcr P ops Rd oi v { a with defers:=d::a.defers }:=fun d=>hy.same rfl rfl
  unfold wpOp at *
  simp only [hj] at *
  rw [wanted_put oj a oi.dst v h1] at h
  split
  · rename_i hw
    simp only [hw,if_true] at h
    rcases h with h | ⟨hasks,hlets⟩
    case inr=>exact .inr ⟨by unfold Oper.asks at *; rw [execOp_put oj hsj a oi.dst v h1] at hasks; exact hasks,hlets⟩
    refine .inl ?_
    unfold Oper.wp at *
    rw [execOp_put oj hsj a oi.dst v h1] at h
    generalize (execOp a.eval oj).run P w=r at *
    cases r with
    | ok n w' =>
      cases n <;> simp only [Oper.upon] at h ⊢
      case value u=>exact ⟨keep a hy u,by rw [←Act.put_comm a v u h2]; exact h⟩
      case skip=>exact ⟨keep a hy _,by rw [←Act.put_comm a v undef h2]; exact h⟩
      case defer d =>
        refine ⟨keep _ (keepD d) _,?_⟩
        rw [←Act.put_comm _ v undef h2,←Act.put_defers]
        exact h
      case enter f args =>
        refine Calls.mono h fun e w'' he=>?_
        cases e with
        | returned u=>exact ⟨keep a hy u,by rw [←Act.put_comm a v u h2]; exact he⟩
        | panicked c=>exact hQ _ _ _ he
        | outgrown=>exact he
      case row row args=>exact Rows.mono h fun u w'' he=>⟨keep a hy u,by rw [←Act.put_comm a v u h2]; exact he⟩
    | halt x w' =>
      cases x <;> simp only [Oper.upon] at h ⊢
      case panic u=>exact hQ _ _ _ h
  · rename_i hw
    simp only [hw] at h
    exact ⟨keep a hy _,by rw [←Act.put_comm a v undef h2]; exact h⟩
theorem Qjg {Rd : World→Prop} {i:Nat} {oi:Oper} {v:Value} (hi:ops[i]? = some oi) (hsel:∀ (j:Nat) (o:Oper) cs b,ops[j]? = some o→o.op≠.select cs b) (hQ:∀ c a w,Q (.panic c) (a.put oi.dst v) w→Q (.panic c) a w) :
    ∀ (fuel:Nat) (listed:Array Bool) (a:Act) (w:World),Rd w →
      (∀ j oj,ops[j]? = some oj→j≠i→listed.getD j true=false→(∀ e∈oj.after,zaI .any e=true→e.on≠i)→oi.apart ops oj=true) →
      i∈zaG .any ops listed→Qcr P ops Rd oi v a→allR P ops Q Rd fuel (listed.setIfInBounds i true) (a.put oi.dst v) w→allR P ops Q Rd (fuel+1) listed a w:=by
  intro fuel
  induction fuel with
  | zero =>
    intro listed a w hw _ hr hy H
    refine ⟨fun h=>(by rw [h] at hr; cases hr),fun j hj=>?_⟩
    by_cases hji:j=i
    · subst hji; exact hy.wpOp hi hw ⟨hw,H⟩
    · have:=ready_mono hj hji
      rw [H.1] at this
      cases this
  | succ fuel ih =>
    intro listed a w hw hfree hr hy H
    refine ⟨fun h=>(by rw [h] at hr; cases hr),fun j hj=>?_⟩
    by_cases hji:j=i
    · subst hji; exact hy.wpOp hi hw ⟨hw,H⟩
    · have h1:=H.2 j (ready_mono hj hji)
      obtain ⟨hjun,oj,hoj,hall⟩:=mem_ready.1 hj
      have hnot:∀ e∈oj.after,zaI .any e=true→e.on≠i:=fun e he hb heq=>by
        have h1:=hall e he hb
        have h0:=(mem_ready.1 hr).1
        rw [heq] at h1
        rcases zas i listed.size with h' | h'
        · simp [h'] at h0 h1; rw [h0] at h1; cases h1
        · simp [zaJ h'] at h1
      have h2:=QjK hoj (hfree j oj hoj hji hjun hnot) (fun cs b=>hsel i oi cs b hi) (fun cs b=>hsel j oj cs b hoj) hQ hy h1
      have hfree':∀ k ok,ops[k]? = some ok→k≠i→(listed.setIfInBounds j true).getD k true=false→(∀ e∈ok.after,zaI .any e=true→e.on≠i)→oi.apart ops ok=true:=fun k ok hk hki hun hno=>by
        refine hfree k ok hk hki ?_ hno
        by_cases hjk:j=k
        · subst hjk; exact hjun
        · rw [getD_set_ne true hjk] at hun; exact hun
      refine wpOp_mono (fun a' w' h3=>⟨h3.2.1,ih (listed.setIfInBounds j true) a' w' h3.2.1 hfree' (ready_mono hr (Ne.symm hji)) h3.1 ?_⟩) h2
      rw [zaK _ _ hji]
      exact h3.2.2
structure WB (P : Program) (ops : Array Oper) (Q : Exit → Act → World → Prop) (Rd : World → Prop) (fuel : Nat) (listed : Array Bool) (a : Act) (w : World) : Prop where
  out:Rd w→allR P ops Q Rd fuel listed a w
structure WO (P : Program) (ops : Array Oper) (Q : Exit → Act → World → Prop) (Rd : World → Prop) (k fuel : Nat) (listed : Array Bool) (a : Act) (w : World) : Prop where
  out:wpOp P ops Q k (fun a' w'=>Rd w'∧allR P ops Q Rd fuel (listed.setIfInBounds k true) a' w') a w
variable {o : Oper} {N : Nat} {L : Env} {w V : World} {ds : List Deferred} {fuel : Nat} {listed : Array Bool} {k : Nat} {a : Act} {Rd : World → Prop}
theorem QbO {id : Nat} {l:List Oper} (Rd:World→Prop) (hm:P.follows .mixedOrders=true) (h:∀ W,Ext w W→Rd W∧WB P l.toArray Q Rd l.length (zaL l.length false) (Qaw ds N L) W):(zaM id l.toArray true).wp P Q (Qaw ds N L) w:=by
  refine wp_region_any hm ?_
  obtain ⟨h1,h2⟩:=h w.drew (Qaj w)
  have:=Qir _ _ _ _ (h2.out h1)
  simpa using this
theorem QaA (k : Nat) (v:Value) (d:Nat) (ho:ops[k]? = some o) (hd:o.dst=some d) (hg:Qbm ops o N L=some true) (hc:(zaN ops&&zaO .any ops listed k&&(zaG .any ops listed).contains k)=true)
    (hQ:∀ c a w,Q (.panic c) (a.put o.dst v) w→Q (.panic c) a w) (h:∀ W,Rd W→(execOp (Rely.look (envN N L)) o).run P W=.ok (.value v) W) (kk:WB P ops Q Rd fuel (listed.setIfInBounds k true) (Qaw ds N ((d,v)::L)) w):WB P ops Q Rd (fuel+1) listed (Qaw ds N L) w:=by
  simp only [Bool.and_eq_true] at hc
  refine ⟨fun hw=>Qjg ho (zaP hc.1.1) hQ fuel listed _ w hw (zaQ ho hc.1.2) (by simpa using hc.2) (.inl ⟨Qbh hg,fun W hW=>?_⟩) ?_⟩
  · rw [QaO]; exact h W hW
  · rw [hd,QaN]; exact kk.out hw
theorem QcP (k : Nat) (hr:zaG .any ops listed=[k]) (h:WO P ops Q Rd k fuel listed a w):WB P ops Q Rd (fuel+1) listed a w :=
  ⟨fun _=>⟨fun h0=>(by rw [hr] at h0; cases h0),fun i hi=>by
    rw [hr] at hi; obtain rfl:i=k:=by simpa using hi
    exact h.out⟩⟩
theorem Qnx (ho : ops[k]? = some o) (R:Value→World→Prop) (d:Nat) (hd:o.dst=some d) (hg:Qbm ops o N L=some true) (h:∃ v W,(execOp (Rely.look (envN N L)) o).run P w=.ok (.value v) W∧R v W) (hR:∀ v W,R v W→Rd W)
    (kk:∀ (v:Value) (W:World),R v W→WB P ops Q Rd fuel (listed.setIfInBounds k true) (Qaw ds N ((d,v)::L)) W):WO P ops Q Rd k fuel listed (Qaw ds N L) w:=by
  obtain ⟨v,W,h1,h2⟩:=h
  refine ⟨?_⟩
  unfold wpOp
  rw [ho]
  simp only [Qbh hg,if_true]
  refine .inl ?_
  unfold Oper.wp
  rw [QaO,h1]
  show _∧allR _ _ _ _ _ _ _ _
  rw [hd,QaN]
  exact ⟨hR v W h2,(kk v W h2).out (hR v W h2)⟩
def Ef (P : Program) (o:Oper) (ρ:Operand→Value) (W:World) (φ:Value→World→Prop):Prop :=
  (∃ v W',(execOp ρ o).run P W=.ok (.value v) W'∧Ext W W'∧φ v W')∨∃ f args,(execOp ρ o).run P W=.ok (.enter f args) W∧Calls P f args W fun e W'=>∃ v,e=.returned v∧Ext W W'∧φ v W'
theorem QeT (hr : zaG .any ops listed=[]) (h:Q .normal (Qaw ds N L) w):WB P ops Q Rd fuel listed (Qaw ds N L) w :=
  ⟨fun _=>by cases fuel with
    | zero=>exact ⟨hr,h⟩
    | succ n=>exact ⟨fun _=>h,by rw [hr]; simp⟩⟩
end Wk
end
section
namespace Wr
open Go Go.RowKit
open Rely Auto Own Sha
theorem typW {W : World} {a b:Nat} {c d:Array Value} {s t:TypeId} (h:W.heap[a]? = some (.cells c s)) (k:W.heap[b]? = some (.cells d t)) (hn:s≠t):a≠b:=fun e=>by
  subst e
  rw [h] at k
  simp only [Option.some.injEq,Obj.cells.injEq] at k
  exact hn k.2.1
theorem own_typ {k : IntKind} {T:TypeId} {base:Nat} {xs:List Int} {v:Value} {W:World} (h:OwnN k T base xs v W) {g:Nat} (hg:v.ownBlock=some g):∃ cur,W.heap[g]? = some (.cells cur T):=by
  rcases h.1.2 with ⟨rfl,_⟩ | ⟨g',c,cur,rfl,q2,q3,_⟩
  · cases hg
  · obtain rfl:g'=g:=Option.some.inj hg
    exact ⟨cur,q3⟩
theorem nb_typ {k : IntKind} {T T':TypeId} {base g:Nat} {xs:List Int} {v:Value} {W:World} {c:Array Value} (h:OwnN k T base xs v W) (r:W.heap[g]? = some (.cells c T')) (hn:T≠T'):v.ownBlock≠some g:=fun e=>by
  obtain ⟨cur,q⟩:=own_typ h e
  exact typW q r hn rfl
theorem ownN_but {k : IntKind} {T:TypeId} {b g:Nat} {xs:List Int} {v:Value} {W W':World} (h:OwnN k T b xs v W) (q:ExtB g W W') (hn:v.ownBlock≠some g):OwnN k T b xs v W':=h.keep fun k hk=>q.2.2.2.2 k (h.lt hk) (fun e=>hn (by rw [hk,e]))
theorem bytes_app {a b:List Int} (ha:Qai a) (hb:Qai b):Qai (a++b):=fun x hx=>(za6.1 hx).elim (ha x) (hb x)
structure GW (base gw : Nat) (w W : World) : Prop where
  os:W.os=w.os
  tape:W.tape=w.tape
  output:W.output=w.output
  size:w.heap.size≤W.heap.size
  block:∀ k,k<w.heap.size→k≠gw→(k<base∨∀ cs fr,w.heap[k]?≠some (.cells cs 5 fr))→W.heap[k]? = w.heap[k]?
theorem GW.refl (base gw:Nat) (w:World):GW base gw w w:=⟨rfl,rfl,rfl,qR _,fun _ _ _ _=>rfl⟩
theorem GW.trans {base gw:Nat} {u w W:World} (h:GW base gw u w) (k:GW base gw w W):GW base gw u W :=
  ⟨k.os.trans h.os,k.tape.trans h.tape,k.output.trans h.output,qT h.size k.size,fun i hi hn hc=>by
    have e:=h.block i hi hn hc
    refine (k.block i (qL hi h.size) hn ?_).trans e
    rcases hc with hc | hc
    · exact .inl hc
    · exact .inr fun cs fr=>by rw [e]; exact hc cs fr⟩
theorem GW.of_ext {base gw:Nat} {w W:World} (e:Ext w W):GW base gw w W:=⟨e.os,e.tape,e.output,e.size,fun k hk _ _=>e.block k hk⟩
theorem GW.ext {base gw:Nat} {u w W:World} (h:GW base gw u w) (e:Ext w W):GW base gw u W:=h.trans (GW.of_ext e)
theorem GW.of_but {base gw:Nat} {w W:World} (e:ExtB gw w W):GW base gw w W:=⟨e.1,e.2.1,e.2.2.1,e.2.2.2.1,fun k hk hn _=>e.2.2.2.2 k hk hn⟩
theorem GW.putg {base gw:Nat} {u w W:World} (h:GW base gw u w) (p:Puts w gw W):GW base gw u W :=
  ⟨p.1.trans h.os,p.2.1.trans h.tape,p.2.2.1.trans h.output,by have:=h.size; have:=p.2.2.2.1; omega,fun k hk hn hc=>(p.2.2.2.2 k hn).trans (h.block k hk hn hc)⟩
theorem GW.row {base gw g:Nat} {w W:World} {c:Array Value} {T:TypeId} (h:GW base gw w W) (r:w.heap[g]? = some (.cells c T)) (hT:T≠5) (hn:g≠gw):W.heap[g]? = some (.cells c T) :=
  (h.block g (Qaq r) hn (.inr fun cs fr e=>by rw [r] at e; simp only [Option.some.injEq,Obj.cells.injEq] at e; exact hT e.2.1)).trans r
theorem QnH {base gw:Nat} {w W:World} {ys:List Int} {v:Value} (h:RdK .u8 base ys v w) (q:GW base gw w W) (hb:base≤gw):RdK .u8 base ys v W:=h.keep q.size fun g hg hl=>q.block g hl (by omega) (.inl hg)
def WSt (base gw:Nat) (s:Option (List Int)) (W:World):Prop:=∃ (u:Value) (xs:List Int) (bad:Bool),W.heap[gw]? = some (.cells #[u,.bool bad] 109)∧OwnN .u8 5 base xs u W∧xs.length≤65536∧Qai xs∧s=bif bad then none else some xs
theorem WSt.lt {base gw:Nat} {s:Option (List Int)} {W:World} (h:WSt base gw s W):gw<W.heap.size:=by
  obtain ⟨u,xs,bad,h1,-⟩:=h
  exact Qaq h1
theorem WSt.ext {base gw:Nat} {s:Option (List Int)} {w W:World} (h:WSt base gw s w) (e:Ext w W):WSt base gw s W:=by
  obtain ⟨u,xs,bad,h1,h2,h3⟩:=h
  exact ⟨u,xs,bad,Qaa h1 e,h2.ext e,h3⟩
def rawS (s : Option (List Int)) (ys:List Int):Option (List Int):=s.bind fun xs=>if xs.length+ys.length≤65536 then some (xs++ys) else none
def byV (n : Int) (k:Nat):Int:=zaR.wrap (n.fdiv (2^(8*k)))
theorem QgV (n : Int) (k:Nat):Qai [byV n k]:=fun x hx=>by
  simp only [za7,zan,or_false] at hx
  subst hx
  have h3:∀ z:Int,zaR.wrap z=z%256:=fun _=>rfl
  unfold byV
  rw [h3]; omega
def numR (n : Int):Nat→Option (List Int)→Option (List Int)
  | 0,s=>s
  | k+1,s=>numR n k (rawS s [byV n k])
def okN (n : Int) (size:Nat):Bool:=decide (0≤n)&&(n.fdiv (2^(8*size))==0)
def mustS (s : Option (List Int)) (ok:Bool):Option (List Int):=bif ok then s else none
def numS (s : Option (List Int)) (n:Int) (size:Nat):Option (List Int):=numR n size (mustS s (okN n size))
def leafS (s : Option (List Int)) (n:Int):Option (List Int):=numS (mustS s (decide (n<32))) n 1
def bytS (s : Option (List Int)) (ys:List Int):Option (List Int):=rawS (numS s ((ys.length:Nat):Int) 2) ys
end Wr
end
open Wr.GW renaming refl → zb4, trans → zb5
section
namespace Wr
open Go Go.RowKit
open Rely Auto Own Sha
theorem QnV (gw : Nat) (u:Value) (ok:Bool) (w:World) (hg:w.heap[gw]? = some (.cells #[u,.bool true] 109)):Calls Tryd.prog 69 #[.pointer (some ⟨gw,0,none⟩),.bool ok] w (fun e W=>e=.returned (.tuple #[])∧ExtB gw w W∧W.heap[gw]? = some (.cells (cat [#[u],#[.bool true]]) 109)):=by
  refine enter 15 [(0,.pointer (some ⟨gw,0,none⟩)),(1,.bool ok)] Tryd.func69 rfl rfl kj rfl ?_
  refine Qae ?_
  refine Qab (.pointer (some ⟨gw,0,none⟩)) 4 rfl kj kj ?_
  refine Qab (.pointer (some ⟨gw,0,none⟩)) 5 rfl kj kj ?_
  refine Qab (.pointer (some ⟨gw,0,none⟩)) 6 rfl kj kj ?_
  refine Qab (.pointer (some ⟨gw,1,none⟩)) 7 rfl kj kj ?_
  refine Qab (.bool true) 8 rfl kj (Qad 4 _ gw 1 109 _ (.bool true) _ hg rfl kj kj kj) ?_
  refine Qab (.bool true) 9 rfl kj kj ?_
  refine Qcd 10 rfl kj ?_
  refine Qcd 11 rfl kj ?_
  refine Qab (.bool true) 12 rfl kj kj ?_
  refine Qab (.pointer (some ⟨gw,0,none⟩)) 13 rfl kj kj ?_
  refine Qab (.pointer (some ⟨gw,1,none⟩)) 14 rfl kj kj ?_
  refine Qan gw _ (cat [#[u],#[.bool true]]) 109 hg rfl kj (Qbd 4 _ _ gw 1 109 _ (.bool true) hg rfl kj kj kj kj kj rfl) fun W1 p1 r1_1=>?_
  have x1:ExtB gw w W1:=zbw (zbv gw w) p1
  refine Qal ?_
  repeat (first | with_reducible refine goX1 ?_ | with_reducible refine goX2 ?_ | with_reducible refine goX3 ?_)
  exact (show bodyPost _ _ _ .normal _ _ from end0 rfl ⟨rfl,x1,r1_1⟩)
theorem QnU (gw : Nat) (u:Value) (ok:Bool) (w:World) (hg:w.heap[gw]? = some (.cells #[u,.bool false] 109)):Calls Tryd.prog 69 #[.pointer (some ⟨gw,0,none⟩),.bool ok] w (fun e W=>e=.returned (.tuple #[])∧ExtB gw w W∧W.heap[gw]? = some (.cells (cat [#[u],#[.bool (!ok)]]) 109)):=by
  refine enter 15 [(0,.pointer (some ⟨gw,0,none⟩)),(1,.bool ok)] Tryd.func69 rfl rfl kj rfl ?_
  refine Qae ?_
  refine Qab (.pointer (some ⟨gw,0,none⟩)) 4 rfl kj kj ?_
  refine Qab (.pointer (some ⟨gw,0,none⟩)) 5 rfl kj kj ?_
  refine Qab (.pointer (some ⟨gw,0,none⟩)) 6 rfl kj kj ?_
  refine Qab (.pointer (some ⟨gw,1,none⟩)) 7 rfl kj kj ?_
  refine Qab (.bool false) 8 rfl kj (Qad 4 _ gw 1 109 _ (.bool false) _ hg rfl kj kj kj) ?_
  refine Qab (.bool false) 9 rfl kj kj ?_
  refine Qab (.bool ok) 10 rfl kj kj ?_
  refine Qab (.bool (!ok)) 11 rfl kj kj ?_
  refine Qab (.bool (!ok)) 12 rfl kj kj ?_
  refine Qab (.pointer (some ⟨gw,0,none⟩)) 13 rfl kj kj ?_
  refine Qab (.pointer (some ⟨gw,1,none⟩)) 14 rfl kj kj ?_
  refine Qan gw _ (cat [#[u],#[.bool (!ok)]]) 109 hg rfl kj (Qbd 4 _ _ gw 1 109 _ (.bool (!ok)) hg rfl kj kj kj kj kj rfl) fun W1 p1 r1_1=>?_
  have x1:ExtB gw w W1:=zbw (zbv gw w) p1
  refine Qal ?_
  repeat (first | with_reducible refine goX1 ?_ | with_reducible refine goX2 ?_ | with_reducible refine goX3 ?_)
  exact (show bodyPost _ _ _ .normal _ _ from end0 rfl ⟨rfl,x1,r1_1⟩)
theorem Qlq (gw : Nat) (u:Value) (bad ok:Bool) (w:World) (hg:w.heap[gw]? = some (.cells #[u,.bool bad] 109)):Calls Tryd.prog 69 #[.pointer (some ⟨gw,0,none⟩),.bool ok] w (fun e W=>e=.returned (.tuple #[])∧ExtB gw w W∧W.heap[gw]? = some (.cells #[u,.bool (bad || !ok)] 109)):=by
  cases bad with
  | true=>exact QnV gw u ok w hg
  | false=>exact QnU gw u ok w hg
theorem QmE (base gw:Nat) (s:Option (List Int)) (ok:Bool) (w:World) (h:WSt base gw s w):Calls Tryd.prog 69 #[.pointer (some ⟨gw,0,none⟩),.bool ok] w (fun e W=>e=.returned (.tuple #[])∧GW base gw w W∧WSt base gw (mustS s ok) W):=by
  obtain ⟨u,xs,bad,h1,h2,h3,h4,rfl⟩:=h
  refine (Qlq gw u bad ok w h1).mono fun e W hh=>⟨hh.1,GW.of_but hh.2.1,u,xs,_,hh.2.2,?_,h3,h4,?_⟩
  · exact h2.keep fun g hg=>hh.2.1.2.2.2.2 g (h2.lt hg) (fun e=>nb_typ h2 h1 (by decide) (by rw [hg,e]))
  · cases bad <;> cases ok <;> rfl
end Wr
end
section
namespace Wr
open Go Go.RowKit
open Rely Auto Own Sha
section
variable {ds : List Deferred} {P : Program} {ops : Array Oper} {Q : Exit → Act → World → Prop} {rest : List Oper} {o : Oper} {N : Nat} {L : Env} {W : World}
theorem Qhd (base gw b:Nat) (s x:Operand) (t:TypeId) (ho:o.op=.call { callee:=.builtin .append,args:=#[s,x],argTypes:=#[t,t] })
    (ht:P.underlying t=some (.slice 5)) (hi:(P.info? 5).map (fun i=>(i.zero,i.size,i.bytes))=some (some (.int .u8 0),1,b)) (hb8:b≤8) (d:Nat) (hd:o.dst=some d) (hg:Qbm ops o N L=some true) {B:Nat} {v y:Value} {xs ys:List Int}
    (hs:Rely.look (envN N L) s=v) (hx:Rely.look (envN N L) x=y) (h:OwnN .u8 5 base xs v W) (hy:RdK .u8 B ys y W) (hn:xs.length+ys.length≤1000000000) (hV:base≤W.heap.size) {c:Array Value} (r:W.heap[gw]? = some (.cells c 109))
    (kk:∀ (u:Value) (W':World),OwnN .u8 5 base (xs++ys) u W'→GW base gw W W'→W'.heap[gw]? = some (.cells c 109)→WL P ops Q rest (Qaw ds N ((d,u)::L)) W'):WL P ops Q (o::rest) (Qaw ds N L) W:=by
  obtain ⟨v',W',h1,h2,h3,h4⟩:=Qiq (ρ:=Rely.look (envN N L)) (o:=o) (W:=W) s x t ho ht hi hb8 hs hx h hy hn hV
  refine Qbz _ _ d hd hg h1 (kk v' W' h2 ⟨h3.os,h3.tape,h3.output,h3.size,fun i hi hne hc=>h3.block i hi (fun q=>?_)⟩ ((h3.block gw (Qaq r) (fun q=>nb_typ h r (by decide) q.symm)).trans r))
  rcases hc with hc | hc
  · have:=h.ge q.symm; omega
  · obtain ⟨cur,e⟩:=own_typ h q.symm
    exact hc cur _ e
end
theorem QoA (base gw:Nat) (u v:Value) (xs ys:List Int) (w:World) (hbw:base≤w.heap.size) (hg:w.heap[gw]? = some (.cells #[u,.bool true] 109)) (ho:OwnN .u8 5 base xs u w) (hxl:xs.length≤65536) (hyl:ys.length≤1000000) (hst:∀ W,ExtB gw w W→RdK .u8 W.heap.size ys v W) (ok:Bool) (hok:decide (((xs.length+ys.length:Nat):Int)≤65536)=ok) :
    Calls Tryd.prog 50 #[.pointer (some ⟨gw,0,none⟩),v] w (fun e W=>e=.returned (.tuple #[])∧GW base gw w W∧∃ u',W.heap[gw]? = some (.cells (cat [#[u'],#[.bool true]]) 109)∧OwnN .u8 5 base (xs) u' W):=by
  obtain ⟨a_u,c_u,rfl,-⟩:=id (zbz ho)
  obtain ⟨a_y,c_y,rfl,-⟩:=id (hst _ (zbv gw w))
  refine enter 29 [(0,.pointer (some ⟨gw,0,none⟩)),(1,.slice a_y ys.length c_y)] Tryd.func50 rfl rfl kj rfl ?_
  refine wp_seq_k fun K2 hK2=>?_
  refine Qae ?_
  refine Qab (.pointer (some ⟨gw,0,none⟩)) 4 rfl kj kj ?_
  refine Qab (.pointer (some ⟨gw,0,none⟩)) 5 rfl kj kj ?_
  refine Qab (.pointer (some ⟨gw,0,none⟩)) 6 rfl kj kj ?_
  refine Qab (.pointer (some ⟨gw,0,none⟩)) 7 rfl kj kj ?_
  refine Qab (.slice a_u xs.length c_u) 8 rfl kj (Qad 33 _ gw 0 109 _ (.slice a_u xs.length c_u) _ hg rfl kj kj kj) ?_
  refine Qab (.int .i64 ((xs.length:Nat):Int)) 9 rfl kj kj ?_
  refine Qab (.slice a_y ys.length c_y) 10 rfl kj kj ?_
  refine Qab (.int .i64 ((ys.length:Nat):Int)) 11 rfl kj kj ?_
  refine Qab (.int .i64 ((xs.length+ys.length:Nat):Int)) 12 rfl kj (Qah (u:=.int .i64 (zaS.wrap (((xs.length:Nat):Int)+((ys.length:Nat):Int)))) kj (congrArg (zaT .i64) (i64n _ _ (by omega) (by omega)))) ?_
  refine Qab (.bool (ok)) 13 rfl kj (Qah (u:=.bool (decide (((xs.length+ys.length:Nat):Int)≤65536))) kj (congrArg zax hok)) ?_
  refine Qav (fun v W'=>v=.tuple #[]∧ExtB gw w W'∧W'.heap[gw]? = some (.cells (cat [#[.slice a_u xs.length c_u],#[.bool true]]) 109)) 69 #[.pointer (some ⟨gw,0,none⟩),.bool (ok)] 14 rfl kj kj ((Qlq gw _ _ _ _ hg).mono (by intro e w' h; exact ⟨_,h.1,rfl,h.2⟩)) fun v W1 h3=>?_
  obtain ⟨rfl,q1,r1_1⟩:=h3
  have x1:GW base gw w W1:=zb5 (zb4 base gw w) (GW.of_but q1)
  refine Qal ?_
  refine hK2 _ _ ?_
  refine wp_seq_k fun K4 hK4=>?_
  refine Qae ?_
  refine Qab (.pointer (some ⟨gw,0,none⟩)) 15 rfl kj kj ?_
  refine Qab (.pointer (some ⟨gw,0,none⟩)) 16 rfl kj kj ?_
  refine Qab (.pointer (some ⟨gw,1,none⟩)) 17 rfl kj kj ?_
  refine Qab (.bool true) 18 rfl kj (Qad 4 _ gw 1 109 _ (.bool true) _ r1_1 rfl kj kj kj) ?_
  refine Qab (.bool false) 19 rfl kj kj ?_
  refine Qal ?_
  refine hK4 _ _ ?_
  refine cond_false kj ?_
  refine wp_skip ?_
  repeat (first | with_reducible refine goX1 ?_ | with_reducible refine goX2 ?_ | with_reducible refine goX3 ?_)
  have f5_1:=(ownN_but ho q1 (nb_typ ho hg (by decide)))
  exact (show bodyPost _ _ _ .normal _ _ from end0 rfl ⟨rfl,x1,_,r1_1,f5_1⟩)
theorem Qo9 (base gw:Nat) (u v:Value) (xs ys:List Int) (w:World) (hbw:base≤w.heap.size) (hg:w.heap[gw]? = some (.cells #[u,.bool false] 109)) (ho:OwnN .u8 5 base xs u w) (hxl:xs.length≤65536) (hyl:ys.length≤1000000) (hst:∀ W,ExtB gw w W→RdK .u8 W.heap.size ys v W) (h:65536<xs.length+ys.length) :
    Calls Tryd.prog 50 #[.pointer (some ⟨gw,0,none⟩),v] w (fun e W=>e=.returned (.tuple #[])∧GW base gw w W∧∃ u',W.heap[gw]? = some (.cells (cat [#[u'],#[.bool true]]) 109)∧OwnN .u8 5 base (xs) u' W):=by
  obtain ⟨a_u,c_u,rfl,-⟩:=id (zbz ho)
  obtain ⟨a_y,c_y,rfl,-⟩:=id (hst _ (zbv gw w))
  refine enter 29 [(0,.pointer (some ⟨gw,0,none⟩)),(1,.slice a_y ys.length c_y)] Tryd.func50 rfl rfl kj rfl ?_
  refine wp_seq_k fun K2 hK2=>?_
  refine Qae ?_
  refine Qab (.pointer (some ⟨gw,0,none⟩)) 4 rfl kj kj ?_
  refine Qab (.pointer (some ⟨gw,0,none⟩)) 5 rfl kj kj ?_
  refine Qab (.pointer (some ⟨gw,0,none⟩)) 6 rfl kj kj ?_
  refine Qab (.pointer (some ⟨gw,0,none⟩)) 7 rfl kj kj ?_
  refine Qab (.slice a_u xs.length c_u) 8 rfl kj (Qad 33 _ gw 0 109 _ (.slice a_u xs.length c_u) _ hg rfl kj kj kj) ?_
  refine Qab (.int .i64 ((xs.length:Nat):Int)) 9 rfl kj kj ?_
  refine Qab (.slice a_y ys.length c_y) 10 rfl kj kj ?_
  refine Qab (.int .i64 ((ys.length:Nat):Int)) 11 rfl kj kj ?_
  refine Qab (.int .i64 ((xs.length+ys.length:Nat):Int)) 12 rfl kj (Qah (u:=.int .i64 (zaS.wrap (((xs.length:Nat):Int)+((ys.length:Nat):Int)))) kj (congrArg (zaT .i64) (i64n _ _ (by omega) (by omega)))) ?_
  refine Qab (.bool false) 13 rfl kj (Qah (u:=.bool (decide (((xs.length+ys.length:Nat):Int)≤65536))) kj (congrArg zax (decide_eq_false (by omega)))) ?_
  refine Qav (fun v W'=>v=.tuple #[]∧ExtB gw w W'∧W'.heap[gw]? = some (.cells (cat [#[.slice a_u xs.length c_u],#[.bool true]]) 109)) 69 #[.pointer (some ⟨gw,0,none⟩),.bool false] 14 rfl kj kj ((Qlq gw _ _ _ _ hg).mono (by intro e w' h; exact ⟨_,h.1,rfl,h.2⟩)) fun v W1 h3=>?_
  obtain ⟨rfl,q1,r1_1⟩:=h3
  have x1:GW base gw w W1:=zb5 (zb4 base gw w) (GW.of_but q1)
  refine Qal ?_
  refine hK2 _ _ ?_
  refine wp_seq_k fun K4 hK4=>?_
  refine Qae ?_
  refine Qab (.pointer (some ⟨gw,0,none⟩)) 15 rfl kj kj ?_
  refine Qab (.pointer (some ⟨gw,0,none⟩)) 16 rfl kj kj ?_
  refine Qab (.pointer (some ⟨gw,1,none⟩)) 17 rfl kj kj ?_
  refine Qab (.bool true) 18 rfl kj (Qad 4 _ gw 1 109 _ (.bool true) _ r1_1 rfl kj kj kj) ?_
  refine Qab (.bool false) 19 rfl kj kj ?_
  refine Qal ?_
  refine hK4 _ _ ?_
  refine cond_false kj ?_
  refine wp_skip ?_
  repeat (first | with_reducible refine goX1 ?_ | with_reducible refine goX2 ?_ | with_reducible refine goX3 ?_)
  have f5_1:=(ownN_but ho q1 (nb_typ ho hg (by decide)))
  exact (show bodyPost _ _ _ .normal _ _ from end0 rfl ⟨rfl,x1,_,r1_1,f5_1⟩)
theorem Qo8 (base gw:Nat) (u v:Value) (xs ys:List Int) (w:World) (hbw:base≤w.heap.size) (hg:w.heap[gw]? = some (.cells #[u,.bool false] 109)) (ho:OwnN .u8 5 base xs u w) (hxl:xs.length≤65536) (hyl:ys.length≤1000000) (hst:∀ W,ExtB gw w W→RdK .u8 W.heap.size ys v W) (h:xs.length+ys.length≤65536) :
    Calls Tryd.prog 50 #[.pointer (some ⟨gw,0,none⟩),v] w (fun e W=>e=.returned (.tuple #[])∧GW base gw w W∧∃ u',W.heap[gw]? = some (.cells (cat [#[u'],#[.bool false]]) 109)∧OwnN .u8 5 base (xs++ys) u' W):=by
  obtain ⟨a_u,c_u,rfl,-⟩:=id (zbz ho)
  obtain ⟨a_y,c_y,rfl,-⟩:=id (hst _ (zbv gw w))
  refine enter 29 [(0,.pointer (some ⟨gw,0,none⟩)),(1,.slice a_y ys.length c_y)] Tryd.func50 rfl rfl kj rfl ?_
  refine wp_seq_k fun K2 hK2=>?_
  refine Qae ?_
  refine Qab (.pointer (some ⟨gw,0,none⟩)) 4 rfl kj kj ?_
  refine Qab (.pointer (some ⟨gw,0,none⟩)) 5 rfl kj kj ?_
  refine Qab (.pointer (some ⟨gw,0,none⟩)) 6 rfl kj kj ?_
  refine Qab (.pointer (some ⟨gw,0,none⟩)) 7 rfl kj kj ?_
  refine Qab (.slice a_u xs.length c_u) 8 rfl kj (Qad 33 _ gw 0 109 _ (.slice a_u xs.length c_u) _ hg rfl kj kj kj) ?_
  refine Qab (.int .i64 ((xs.length:Nat):Int)) 9 rfl kj kj ?_
  refine Qab (.slice a_y ys.length c_y) 10 rfl kj kj ?_
  refine Qab (.int .i64 ((ys.length:Nat):Int)) 11 rfl kj kj ?_
  refine Qab (.int .i64 ((xs.length+ys.length:Nat):Int)) 12 rfl kj (Qah (u:=.int .i64 (zaS.wrap (((xs.length:Nat):Int)+((ys.length:Nat):Int)))) kj (congrArg (zaT .i64) (i64n _ _ (by omega) (by omega)))) ?_
  refine Qab (.bool true) 13 rfl kj (Qah (u:=.bool (decide (((xs.length+ys.length:Nat):Int)≤65536))) kj (congrArg zax (decide_eq_true (by omega)))) ?_
  refine Qav (fun v W'=>v=.tuple #[]∧ExtB gw w W'∧W'.heap[gw]? = some (.cells (cat [#[.slice a_u xs.length c_u],#[.bool false]]) 109)) 69 #[.pointer (some ⟨gw,0,none⟩),.bool true] 14 rfl kj kj ((Qlq gw _ _ _ _ hg).mono (by intro e w' h; exact ⟨_,h.1,rfl,h.2⟩)) fun v W1 h3=>?_
  obtain ⟨rfl,q1,r1_1⟩:=h3
  have x1:GW base gw w W1:=zb5 (zb4 base gw w) (GW.of_but q1)
  refine Qal ?_
  refine hK2 _ _ ?_
  refine wp_seq_k fun K4 hK4=>?_
  refine Qae ?_
  refine Qab (.pointer (some ⟨gw,0,none⟩)) 15 rfl kj kj ?_
  refine Qab (.pointer (some ⟨gw,0,none⟩)) 16 rfl kj kj ?_
  refine Qab (.pointer (some ⟨gw,1,none⟩)) 17 rfl kj kj ?_
  refine Qab (.bool false) 18 rfl kj (Qad 4 _ gw 1 109 _ (.bool false) _ r1_1 rfl kj kj kj) ?_
  refine Qab (.bool true) 19 rfl kj kj ?_
  refine Qal ?_
  refine hK4 _ _ ?_
  refine cond_true kj ?_
  refine Qae ?_
  refine Qab (.pointer (some ⟨gw,0,none⟩)) 20 rfl kj kj ?_
  refine Qab (.pointer (some ⟨gw,0,none⟩)) 21 rfl kj kj ?_
  refine Qab (.pointer (some ⟨gw,0,none⟩)) 22 rfl kj kj ?_
  refine Qab (.pointer (some ⟨gw,0,none⟩)) 23 rfl kj kj ?_
  refine Qab (.slice a_u xs.length c_u) 24 rfl kj (Qad 33 _ gw 0 109 _ (.slice a_u xs.length c_u) _ r1_1 rfl kj kj kj) ?_
  refine Qab (.slice a_y ys.length c_y) 25 rfl kj kj ?_
  have f5_1:=(ownN_but ho q1 (nb_typ ho hg (by decide)))
  refine Qhd base gw 1 (.tmp 24) (.tmp 25) 33 rfl kj kj (by decide) 26 rfl kj kj kj f5_1 (hst _ q1) (by omega) (qT hbw x1.size) r1_1 fun u2 W2 ho2 q2 r1_2=>?_
  have x2:GW base gw w W2:=zb5 x1 q2
  have hnb2:u2.ownBlock≠some gw:=nb_typ ho2 r1_2 (by decide)
  obtain ⟨a2_,c2_,rfl,-⟩:=id (zbz ho2)
  refine Qab (.pointer (some ⟨gw,0,none⟩)) 27 rfl kj kj ?_
  refine Qab (.pointer (some ⟨gw,0,none⟩)) 28 rfl kj kj ?_
  refine Qan gw _ (cat [#[.slice a2_ ((xs++ys).length) c2_],#[.bool false]]) 109 r1_2 rfl kj (Qbd 33 _ _ gw 0 109 _ (.slice a2_ ((xs++ys).length) c2_) r1_2 rfl kj kj kj kj kj rfl) fun W3 p3 r1_3=>?_
  have x3:GW base gw w W3:=GW.putg x2 p3
  refine Qal ?_
  repeat (first | with_reducible refine goX1 ?_ | with_reducible refine goX2 ?_ | with_reducible refine goX3 ?_)
  have f7_3:=(ho2.puts p3 hnb2)
  exact (show bodyPost _ _ _ .normal _ _ from end0 rfl ⟨rfl,x3,_,r1_3,f7_3⟩)
theorem rawW (base gw:Nat) (s:Option (List Int)) (ys:List Int) (v:Value) (w:World) (hbw:base≤w.heap.size) (h:WSt base gw s w) (hyl:ys.length≤1000000) (hyb:Qai ys) (hst:∀ W,ExtB gw w W→RdK .u8 W.heap.size ys v W):Calls Tryd.prog 50 #[.pointer (some ⟨gw,0,none⟩),v] w (fun e W=>e=.returned (.tuple #[])∧GW base gw w W∧WSt base gw (rawS s ys) W):=by
  obtain ⟨u,xs,bad,h1,h2,h3,h4,rfl⟩:=h
  cases bad with
  | true =>
    refine (QoA base gw u v xs ys w hbw h1 h2 h3 hyl hst _ rfl).mono fun e W ⟨a,b,u',c,d⟩=>⟨a,b,u',xs,true,c,d,h3,h4,rfl⟩
  | false =>
    by_cases hf:xs.length+ys.length≤65536
    · refine (Qo8 base gw u v xs ys w hbw h1 h2 h3 hyl hst hf).mono fun e W ⟨a,b,u',c,d⟩=>⟨a,b,u',xs++ys,false,c,d,by rw [zac]; omega,bytes_app h4 hyb,?_⟩
      show rawS (some xs) ys=some (xs++ys)
      exact if_pos hf
    · refine (Qo9 base gw u v xs ys w hbw h1 h2 h3 hyl hst (by omega)).mono fun e W ⟨a,b,u',c,d⟩=>⟨a,b,u',xs,true,c,d,h3,h4,?_⟩
      show rawS (some xs) ys=none
      exact if_neg hf
end Wr
end
section
namespace Wr
open Go Go.RowKit
open Rely Auto Own Sha
theorem shrZ (n : Int) (k:Nat) (hk:k≤4):n.fdiv (2^min (((8*k:Nat):Int)).toNat zaS.bits)=n.fdiv (2^(8*k)):=by
  rw [Int.toNat_natCast,Nat.min_eq_left (show 8*k≤zaS.bits by show 8*k≤64; omega)]
theorem Qln (base gw:Nat) (s:Option (List Int)) (n:Int) (size:Nat) (w:World) (hbw:base≤w.heap.size) (h:WSt base gw s w) (hsz:size≤4) (hn:0≤n):Calls Tryd.prog 51 #[.pointer (some ⟨gw,0,none⟩),.int .i64 n,.int .i64 ((size:Nat):Int)] w (fun e W=>e=.returned (.tuple #[])∧GW base gw w W∧WSt base gw (numS s n size) W):=by
 have hgw:=h.lt
 have hok:okN n size=(n.fdiv (2^(8*size))==0):=by unfold okN; simp [hn]
 refine enter 29 [(0,.pointer (some ⟨gw,0,none⟩)),(1,.int .i64 n),(2,.int .i64 ((size:Nat):Int))] Tryd.func51 rfl rfl kj rfl ?_
 refine wp_seq_k fun K1 hK1=>?_
 refine Qae ?_
 refine Qab (.pointer (some ⟨gw,0,none⟩)) 6 rfl kj kj ?_
 refine Qab (.int .i64 n) 7 rfl kj kj ?_
 refine Qab (.bool true) 8 rfl kj (Qah (u:=.bool (decide (n≥0))) kj (congrArg zax (decide_eq_true (by omega)))) ?_
 refine Qab (.bool true) 9 rfl kj kj ?_
 refine Qab (.int .i64 n) 10 rfl kj kj ?_
 refine Qab (.int .i64 ((size:Nat):Int)) 11 rfl kj kj ?_
 refine Qab (.int .i64 ((8*size:Nat):Int)) 12 rfl kj (Qah (u:=.int .i64 (zaS.wrap (8*((size:Nat):Int)))) kj (congrArg (zaT .i64) (i64n _ _ (by omega) (by omega)))) ?_
 refine Qab (.int .i64 (n.fdiv (2^(8*size)))) 13 rfl kj (QaM .shr _ _ _ _ .i64 .i64 _ _ _ rfl kj kj (QbW _ _ _ _ _ _ (by omega) (shrZ n size (by omega)))) ?_
 refine Qab (.bool (n.fdiv (2^(8*size))==0)) 14 rfl kj (Qah (u:=.bool (((n.fdiv (2^(8*size)))==0))) kj (congrArg zax rfl)) ?_
 refine Qab (.bool (n.fdiv (2^(8*size))==0)) 15 rfl kj kj ?_
 refine Qav (fun v W'=>v=.tuple #[]∧GW base gw w W'∧WSt base gw (mustS s (n.fdiv (2^(8*size))==0)) W') 69 #[.pointer (some ⟨gw,0,none⟩),.bool (n.fdiv (2^(8*size))==0)] 16 rfl kj kj ((QmE base gw s (n.fdiv (2^(8*size))==0) _ h).mono (by rintro e w' ⟨rfl,h1,h2⟩; exact ⟨_,rfl,rfl,h1,h2⟩)) fun v2 W1 h2=>?_
 obtain ⟨rfl,q1,ws2⟩:=h2
 have x1:GW base gw w W1:=zb5 (zb4 base gw w) q1
 refine Qal ?_
 refine hK1 _ _ ?_
 refine wp_block ?_
 refine QaF (fun (s1:Nat×Option (List Int))=>[(0,.pointer (some ⟨gw,0,none⟩)),(1,.int .i64 n),(2,.int .i64 ((s1.1:Nat):Int))]) (fun (s1:Nat×Option (List Int)) W=>(s1.1≤size)∧(WSt base gw s1.2 W)∧(numR n s1.1 s1.2=numR n size (mustS s (n.fdiv (2^(8*size))==0)))∧(GW base gw w W)) (fun (s1:Nat×Option (List Int))=>s1.1) (size,mustS s (n.fdiv (2^(8*size))==0)) ⟨rfl,rfl,rfl,trivial⟩ ⟨(qR _),ws2,rfl,x1⟩ fun s1 X1 V1 hI1=>?_
 obtain ⟨j,sc⟩:=s1
 obtain ⟨hj,hws,hnum,xx1⟩:=hI1
 replace hj:j≤size:=hj
 replace hws:WSt base gw sc V1:=hws
 replace hnum:numR n j sc=numR n size (mustS s (n.fdiv (2^(8*size))==0)):=hnum
 replace xx1:GW base gw w V1:=xx1
 refine wp_seq_k fun K3 hK3=>?_
 refine wp_seq_k fun K4 hK4=>?_
 refine Qae ?_
 refine Qab (.int .i64 ((j:Nat):Int)) 17 rfl kj kj ?_
 refine Qab (.bool (decide (((j:Nat):Int)>0))) 18 rfl kj kj ?_
 refine Qal ?_
 refine hK4 _ _ ?_
 refine Qa2 (t:=decide (((j:Nat):Int)>0)) kj (fun c5=>?_) (fun c5=>?_)
 ·skip
  obtain ⟨jp,hjp⟩:∃ jp,j=jp+1:=⟨j-1,by have:=of_decide_eq_true c5; omega⟩
  refine wp_skip ?_
  refine hK3 _ _ ?_
  refine wp_block ?_
  refine wp_seq_k fun K6 hK6=>?_
  refine Qae ?_
  refine Qab (.int .i64 ((j:Nat):Int)) 19 rfl kj kj ?_
  refine Qab (.int .i64 (((jp:Nat):Int))) 20 rfl kj (Qah (u:=.int .i64 (zaS.wrap (((j:Nat):Int)-1))) kj (congrArg (zaT .i64) (by rw [show ((j:Nat):Int)-1=((jp:Nat):Int) by omega]; exact IntWalk.i64_in _ (by omega)))) ?_
  refine Qab (.int .i64 (((jp:Nat):Int))) 2 rfl kj kj ?_
  refine Qal ?_
  refine hK6 _ _ ?_
  refine Qae ?_
  refine Qab (.pointer (some ⟨gw,0,none⟩)) 21 rfl kj kj ?_
  refine Qab (.int .i64 n) 22 rfl kj kj ?_
  refine Qab (.int .i64 (((jp:Nat):Int))) 23 rfl kj kj ?_
  refine Qab (.int .i64 ((8*jp:Nat):Int)) 24 rfl kj (Qah (u:=.int .i64 (zaS.wrap (8*(((jp:Nat):Int))))) kj (congrArg (zaT .i64) (i64n _ _ (by omega) (by omega)))) ?_
  refine Qab (.int .i64 (n.fdiv (2^(8*jp)))) 25 rfl kj (QaM .shr _ _ _ _ .i64 .i64 _ _ _ rfl kj kj (QbW _ _ _ _ _ _ (by omega) (shrZ n jp (by omega)))) ?_
  refine Qab (.int .u8 (byV n jp)) 26 rfl kj (Qah (u:=.int .u8 (zaR.wrap (n.fdiv (2^(8*jp))))) kj (congrArg (zaT .u8) rfl)) ?_
  refine QaU (ints .u8 ([(byV n jp)])) 5 1 27 rfl kj kj fun g7 W3 l7 e3 r7_3=>?_
  have x3:GW base gw w W3:=GW.ext xx1 e3
  have ws8:=WSt.ext hws e3
  have b7:w.heap.size≤g7:=qT xx1.size l7
  refine Qav (fun v W'=>v=.tuple #[]∧GW base gw W3 W'∧WSt base gw (rawS sc [byV n jp]) W') 50 #[.pointer (some ⟨gw,0,none⟩),.slice (some ⟨g7,0,none⟩) 1 1] 28 rfl kj kj ((rawW base gw sc [byV n jp] _ _ (qT hbw x3.size) ws8 (by show 1≤1000000; decide) (QgV n jp) (fun W e=>Qbp (xs:=[byV n jp]) (n:=1) rfl (zbx e r7_3 (Ne.symm (zaz (qL hgw b7)))) (Qaq (zbx e r7_3 (Ne.symm (zaz (qL hgw b7))))) (by decide))).mono (by rintro e w' ⟨rfl,h1,h2⟩; exact ⟨_,rfl,rfl,h1,h2⟩)) fun v9 W4 h9=>?_
  obtain ⟨rfl,q4,ws9⟩:=h9
  have x4:GW base gw w W4:=zb5 x3 q4
  refine Qal ?_
  repeat (first | with_reducible refine goX1 ?_ | with_reducible refine goX2 ?_ | with_reducible refine goX3 ?_)
  exact Qa5 (jp,rawS sc [byV n jp]) ⟨rfl,rfl,rfl,trivial⟩ ⟨(by omega),ws9,(by have h7:=hnum; rw [hjp] at h7; exact h7),x4⟩ (by omega)
 ·skip
  have hj0:j=0:=by have:=of_decide_eq_false c5; omega
  refine wp_exit ?_
  repeat (first | with_reducible refine goX1 ?_ | with_reducible refine goX2 ?_ | with_reducible refine goX3 ?_)
  exact (show bodyPost _ _ _ .normal _ _ from end0 rfl ⟨rfl,xx1,by have h9:sc=numR n size (mustS s (n.fdiv (2^(8*size))==0)):=(by have h7:=hnum; rw [hj0] at h7; exact h7); rw [h9] at hws; have h8:okN n size=(n.fdiv (2^(8*size))==0):=hok; unfold numS; rw [h8]; exact hws⟩)
theorem Qlo (base gw:Nat) (s:Option (List Int)) (n:Int) (size:Nat) (w:World) (hbw:base≤w.heap.size) (h:WSt base gw s w) (hsz:size≤4) (hn:n<0):Calls Tryd.prog 51 #[.pointer (some ⟨gw,0,none⟩),.int .i64 n,.int .i64 ((size:Nat):Int)] w (fun e W=>e=.returned (.tuple #[])∧GW base gw w W∧WSt base gw (numS s n size) W):=by
 have hgw:=h.lt
 have hok:okN n size=false:=by unfold okN; simp [show ¬ 0≤n by omega]
 refine enter 29 [(0,.pointer (some ⟨gw,0,none⟩)),(1,.int .i64 n),(2,.int .i64 ((size:Nat):Int))] Tryd.func51 rfl rfl kj rfl ?_
 refine wp_seq_k fun K1 hK1=>?_
 refine Qae ?_
 refine Qab (.pointer (some ⟨gw,0,none⟩)) 6 rfl kj kj ?_
 refine Qab (.int .i64 n) 7 rfl kj kj ?_
 refine Qab (.bool false) 8 rfl kj (Qah (u:=.bool (decide (n≥0))) kj (congrArg zax (decide_eq_false (by omega)))) ?_
 refine Qab (.bool false) 9 rfl kj kj ?_
 refine Qcd 10 rfl kj ?_
 refine Qcd 11 rfl kj ?_
 refine Qcd 12 rfl kj ?_
 refine Qcd 13 rfl kj ?_
 refine Qcd 14 rfl kj ?_
 refine Qab (.bool false) 15 rfl kj kj ?_
 refine Qav (fun v W'=>v=.tuple #[]∧GW base gw w W'∧WSt base gw (mustS s false) W') 69 #[.pointer (some ⟨gw,0,none⟩),.bool false] 16 rfl kj kj ((QmE base gw s false _ h).mono (by rintro e w' ⟨rfl,h1,h2⟩; exact ⟨_,rfl,rfl,h1,h2⟩)) fun v2 W1 h2=>?_
 obtain ⟨rfl,q1,ws2⟩:=h2
 have x1:GW base gw w W1:=zb5 (zb4 base gw w) q1
 refine Qal ?_
 refine hK1 _ _ ?_
 refine wp_block ?_
 refine QaF (fun (s1:Nat×Option (List Int))=>[(0,.pointer (some ⟨gw,0,none⟩)),(1,.int .i64 n),(2,.int .i64 ((s1.1:Nat):Int))]) (fun (s1:Nat×Option (List Int)) W=>(s1.1≤size)∧(WSt base gw s1.2 W)∧(numR n s1.1 s1.2=numR n size (mustS s false))∧(GW base gw w W)) (fun (s1:Nat×Option (List Int))=>s1.1) (size,mustS s false) ⟨rfl,rfl,rfl,trivial⟩ ⟨(qR _),ws2,rfl,x1⟩ fun s1 X1 V1 hI1=>?_
 obtain ⟨j,sc⟩:=s1
 obtain ⟨hj,hws,hnum,xx1⟩:=hI1
 replace hj:j≤size:=hj
 replace hws:WSt base gw sc V1:=hws
 replace hnum:numR n j sc=numR n size (mustS s false):=hnum
 replace xx1:GW base gw w V1:=xx1
 refine wp_seq_k fun K3 hK3=>?_
 refine wp_seq_k fun K4 hK4=>?_
 refine Qae ?_
 refine Qab (.int .i64 ((j:Nat):Int)) 17 rfl kj kj ?_
 refine Qab (.bool (decide (((j:Nat):Int)>0))) 18 rfl kj kj ?_
 refine Qal ?_
 refine hK4 _ _ ?_
 refine Qa2 (t:=decide (((j:Nat):Int)>0)) kj (fun c5=>?_) (fun c5=>?_)
 ·skip
  obtain ⟨jp,hjp⟩:∃ jp,j=jp+1:=⟨j-1,by have:=of_decide_eq_true c5; omega⟩
  refine wp_skip ?_
  refine hK3 _ _ ?_
  refine wp_block ?_
  refine wp_seq_k fun K6 hK6=>?_
  refine Qae ?_
  refine Qab (.int .i64 ((j:Nat):Int)) 19 rfl kj kj ?_
  refine Qab (.int .i64 (((jp:Nat):Int))) 20 rfl kj (Qah (u:=.int .i64 (zaS.wrap (((j:Nat):Int)-1))) kj (congrArg (zaT .i64) (by rw [show ((j:Nat):Int)-1=((jp:Nat):Int) by omega]; exact IntWalk.i64_in _ (by omega)))) ?_
  refine Qab (.int .i64 (((jp:Nat):Int))) 2 rfl kj kj ?_
  refine Qal ?_
  refine hK6 _ _ ?_
  refine Qae ?_
  refine Qab (.pointer (some ⟨gw,0,none⟩)) 21 rfl kj kj ?_
  refine Qab (.int .i64 n) 22 rfl kj kj ?_
  refine Qab (.int .i64 (((jp:Nat):Int))) 23 rfl kj kj ?_
  refine Qab (.int .i64 ((8*jp:Nat):Int)) 24 rfl kj (Qah (u:=.int .i64 (zaS.wrap (8*(((jp:Nat):Int))))) kj (congrArg (zaT .i64) (i64n _ _ (by omega) (by omega)))) ?_
  refine Qab (.int .i64 (n.fdiv (2^(8*jp)))) 25 rfl kj (QaM .shr _ _ _ _ .i64 .i64 _ _ _ rfl kj kj (QbW _ _ _ _ _ _ (by omega) (shrZ n jp (by omega)))) ?_
  refine Qab (.int .u8 (byV n jp)) 26 rfl kj (Qah (u:=.int .u8 (zaR.wrap (n.fdiv (2^(8*jp))))) kj (congrArg (zaT .u8) rfl)) ?_
  refine QaU (ints .u8 ([(byV n jp)])) 5 1 27 rfl kj kj fun g7 W3 l7 e3 r7_3=>?_
  have x3:GW base gw w W3:=GW.ext xx1 e3
  have ws8:=WSt.ext hws e3
  have b7:w.heap.size≤g7:=qT xx1.size l7
  refine Qav (fun v W'=>v=.tuple #[]∧GW base gw W3 W'∧WSt base gw (rawS sc [byV n jp]) W') 50 #[.pointer (some ⟨gw,0,none⟩),.slice (some ⟨g7,0,none⟩) 1 1] 28 rfl kj kj ((rawW base gw sc [byV n jp] _ _ (qT hbw x3.size) ws8 (by show 1≤1000000; decide) (QgV n jp) (fun W e=>Qbp (xs:=[byV n jp]) (n:=1) rfl (zbx e r7_3 (Ne.symm (zaz (qL hgw b7)))) (Qaq (zbx e r7_3 (Ne.symm (zaz (qL hgw b7))))) (by decide))).mono (by rintro e w' ⟨rfl,h1,h2⟩; exact ⟨_,rfl,rfl,h1,h2⟩)) fun v9 W4 h9=>?_
  obtain ⟨rfl,q4,ws9⟩:=h9
  have x4:GW base gw w W4:=zb5 x3 q4
  refine Qal ?_
  repeat (first | with_reducible refine goX1 ?_ | with_reducible refine goX2 ?_ | with_reducible refine goX3 ?_)
  exact Qa5 (jp,rawS sc [byV n jp]) ⟨rfl,rfl,rfl,trivial⟩ ⟨(by omega),ws9,(by have h7:=hnum; rw [hjp] at h7; exact h7),x4⟩ (by omega)
 ·skip
  have hj0:j=0:=by have:=of_decide_eq_false c5; omega
  refine wp_exit ?_
  repeat (first | with_reducible refine goX1 ?_ | with_reducible refine goX2 ?_ | with_reducible refine goX3 ?_)
  exact (show bodyPost _ _ _ .normal _ _ from end0 rfl ⟨rfl,xx1,by have h9:sc=numR n size (mustS s false):=(by have h7:=hnum; rw [hj0] at h7; exact h7); rw [h9] at hws; have h8:okN n size=false:=hok; unfold numS; rw [h8]; exact hws⟩)
theorem QfU (base gw:Nat) (s:Option (List Int)) (n:Int) (size:Nat) (w:World) (hbw:base≤w.heap.size) (h:WSt base gw s w) (hsz:size≤4):Calls Tryd.prog 51 #[.pointer (some ⟨gw,0,none⟩),.int .i64 n,.int .i64 ((size:Nat):Int)] w (fun e W=>e=.returned (.tuple #[])∧GW base gw w W∧WSt base gw (numS s n size) W):=by
  by_cases hn:0≤n
  · exact Qln base gw s n size w hbw h hsz hn
  · exact Qlo base gw s n size w hbw h hsz (by omega)
theorem QoN (base gw:Nat) (s:Option (List Int)) (n:Int) (w:World) (hbw:base≤w.heap.size) (h:WSt base gw s w):Calls Tryd.prog 52 #[.pointer (some ⟨gw,0,none⟩),.int .i64 n] w (fun e W=>e=.returned (.tuple #[])∧GW base gw w W∧WSt base gw (leafS s n) W):=by
  have hgw:=h.lt
  refine enter 11 [(0,.pointer (some ⟨gw,0,none⟩)),(1,.int .i64 n)] Tryd.func52 rfl rfl kj rfl ?_
  refine wp_seq_k fun K1 hK1=>?_
  refine Qae ?_
  refine Qab (.pointer (some ⟨gw,0,none⟩)) 4 rfl kj kj ?_
  refine Qab (.int .i64 n) 5 rfl kj kj ?_
  refine Qab (.bool (decide (n<32))) 6 rfl kj kj ?_
  refine Qav (fun v W'=>v=.tuple #[]∧GW base gw w W'∧WSt base gw (mustS s (decide (n<32))) W') 69 #[.pointer (some ⟨gw,0,none⟩),.bool (decide (n<32))] 7 rfl kj kj ((QmE base gw s (decide (n<32)) _ h).mono (by rintro e w' ⟨rfl,h1,h2⟩; exact ⟨_,rfl,rfl,h1,h2⟩)) fun v2 W1 h2=>?_
  obtain ⟨rfl,q1,ws2⟩:=h2
  have x1:GW base gw w W1:=zb5 (zb4 base gw w) q1
  refine Qal ?_
  refine hK1 _ _ ?_
  refine Qae ?_
  refine Qab (.pointer (some ⟨gw,0,none⟩)) 8 rfl kj kj ?_
  refine Qab (.int .i64 n) 9 rfl kj kj ?_
  refine Qav (fun v W'=>v=.tuple #[]∧GW base gw W1 W'∧WSt base gw (numS (mustS s (decide (n<32))) n 1) W') 51 #[.pointer (some ⟨gw,0,none⟩),.int .i64 n,.int .i64 1] 10 rfl kj kj ((QfU base gw _ n 1 _ (qT hbw x1.size) ws2 (by decide)).mono (by rintro e w' ⟨rfl,h1,h2⟩; exact ⟨_,rfl,rfl,h1,h2⟩)) fun v3 W2 h3=>?_
  obtain ⟨rfl,q2,ws3⟩:=h3
  have x2:GW base gw w W2:=zb5 x1 q2
  refine Qal ?_
  repeat (first | with_reducible refine goX1 ?_ | with_reducible refine goX2 ?_ | with_reducible refine goX3 ?_)
  exact (show bodyPost _ _ _ .normal _ _ from end0 rfl ⟨rfl,x2,ws3⟩)
theorem Qol (base gw:Nat) (s:Option (List Int)) (ys:List Int) (v:Value) (w:World) (hbw:base≤w.heap.size) (hbg:base≤gw) (h:WSt base gw s w) (hyl:ys.length≤1000000) (hyb:Qai ys) (hy:RdK .u8 base ys v w):Calls Tryd.prog 53 #[.pointer (some ⟨gw,0,none⟩),v] w (fun e W=>e=.returned (.tuple #[])∧GW base gw w W∧WSt base gw (bytS s ys) W):=by
  have hgw:=h.lt
  obtain ⟨a_y,c_y,rfl,-⟩:=id hy
  refine enter 11 [(0,.pointer (some ⟨gw,0,none⟩)),(1,.slice a_y ys.length c_y)] Tryd.func53 rfl rfl kj rfl ?_
  refine wp_seq_k fun K1 hK1=>?_
  refine Qae ?_
  refine Qab (.pointer (some ⟨gw,0,none⟩)) 4 rfl kj kj ?_
  refine Qab (.slice a_y ys.length c_y) 5 rfl kj kj ?_
  refine Qab (.int .i64 ((ys.length:Nat):Int)) 6 rfl kj kj ?_
  refine Qav (fun v W'=>v=.tuple #[]∧GW base gw w W'∧WSt base gw (numS (s) ((ys.length:Nat):Int) 2) W') 51 #[.pointer (some ⟨gw,0,none⟩),.int .i64 ((ys.length:Nat):Int),.int .i64 2] 7 rfl kj kj ((QfU base gw _ ((ys.length:Nat):Int) 2 _ (qT hbw (zb4 base gw w).size) h (by decide)).mono (by rintro e w' ⟨rfl,h1,h2⟩; exact ⟨_,rfl,rfl,h1,h2⟩)) fun v2 W1 h2=>?_
  obtain ⟨rfl,q1,ws2⟩:=h2
  have x1:GW base gw w W1:=zb5 (zb4 base gw w) q1
  refine Qal ?_
  refine hK1 _ _ ?_
  refine Qae ?_
  refine Qab (.pointer (some ⟨gw,0,none⟩)) 8 rfl kj kj ?_
  refine Qab (.slice a_y ys.length c_y) 9 rfl kj kj ?_
  refine Qav (fun v W'=>v=.tuple #[]∧GW base gw W1 W'∧WSt base gw (rawS (numS (s) ((ys.length:Nat):Int) 2) ys) W') 50 #[.pointer (some ⟨gw,0,none⟩),.slice a_y ys.length c_y] 10 rfl kj kj ((rawW base gw _ ys _ _ (qT hbw x1.size) ws2 (by omega) hyb (fun W e=>RdK.here (RdK.extB (QnH hy x1 hbg) e hbg))).mono (by rintro e w' ⟨rfl,h1,h2⟩; exact ⟨_,rfl,rfl,h1,h2⟩)) fun v3 W2 h3=>?_
  obtain ⟨rfl,q2,ws3⟩:=h3
  have x2:GW base gw w W2:=zb5 x1 q2
  refine Qal ?_
  repeat (first | with_reducible refine goX1 ?_ | with_reducible refine goX2 ?_ | with_reducible refine goX3 ?_)
  exact (show bodyPost _ _ _ .normal _ _ from end0 rfl ⟨rfl,x2,ws3⟩)
end Wr
end
section
namespace Wr
open Go Go.RowKit
open Rely Auto Own Sha
theorem GW.back {base gw:Nat} {u w W:World} (h:Ext u w) (q:GW base gw w W) (hb:u.heap.size≤base) (hg:u.heap.size≤gw):Ext u W :=
  ⟨q.os.trans h.os,q.tape.trans h.tape,q.output.trans h.output,qT h.size q.size,fun k hk=>(q.block k (qL hk h.size) (by omega) (.inl (by omega))).trans (h.block k hk)⟩
def PutR (base : Nat):Option (List Int)→Value→World→Prop
  | none=>fun v W=>v=.tuple #[.slice none 0 0,.iface 41 (.int .i64 3)]
  | some xs=>fun v W=>∃ u,v=.tuple #[u,.nilIface]∧OwnN .u8 5 base xs u W
def packS (s : Option (List Int)) (grp:List Int) (ep fr no:Int) (sealed:List Int):Option (List Int):=bytS (numS (leafS (numS (rawS s grp) ep 4) fr) no 4) sealed
theorem Qm5 (base gw:Nat) (s:Option (List Int)) (grp:List Int) (ep fr no:Int) (sealed:List Int) (a_s:Option Addr) (c_s:Nat) (w:World) (hbw:base≤w.heap.size) (hbg:base≤gw) (h:WSt base gw s w) (hgl:grp.length=32) (hgb:Qai grp) (hsl:sealed.length≤1000000) (hsb:Qai sealed) (hs:RdK .u8 base sealed (.slice a_s sealed.length c_s) w):Calls Tryd.prog 36 #[.pointer (some ⟨gw,0,none⟩),.agg (cat [ints .u8 (grp),#[.int .i64 ep],#[.int .i64 fr],#[.int .i64 no],#[.slice a_s sealed.length c_s]])] w (fun e W=>e=.returned (.tuple #[])∧GW base gw w W∧WSt base gw (packS s grp ep fr no sealed) W):=by
  have hgw:=h.lt
  refine enter 24 [(0,.pointer (some ⟨gw,0,none⟩)),(1,.agg (cat [ints .u8 (grp),#[.int .i64 ep],#[.int .i64 fr],#[.int .i64 no],#[.slice a_s sealed.length c_s]]))] Tryd.func36 rfl rfl kj rfl ?_
  refine wp_seq_k fun K1 hK1=>?_
  refine Qae ?_
  refine Qar (cat [ints .u8 (grp),#[.int .i64 ep],#[.int .i64 fr],#[.int .i64 no],#[.slice a_s sealed.length c_s]]) 35 3 rfl kj kj fun g2 W1 l2 e1 r2_1=>?_
  have x1:GW base gw w W1:=GW.ext (zb4 base gw w) e1
  have ws3:=WSt.ext h e1
  have b2:w.heap.size≤g2:=qT (zb4 base gw w).size l2
  refine Qal ?_
  refine hK1 _ _ ?_
  refine wp_seq_k fun K4 hK4=>?_
  refine Qae ?_
  refine Qab (.pointer (some ⟨gw,0,none⟩)) 4 rfl kj kj ?_
  refine Qab (.pointer (some ⟨g2,0,none⟩)) 5 rfl kj kj ?_
  refine Qab (.slice (some ⟨g2,0,none⟩) 32 32) 6 rfl kj kj ?_
  refine Qav (fun v W'=>v=.tuple #[]∧GW base gw W1 W'∧WSt base gw (rawS (s) grp) W') 50 #[.pointer (some ⟨gw,0,none⟩),.slice (some ⟨g2,0,none⟩) 32 32] 7 rfl kj kj ((rawW base gw _ grp _ _ (qT hbw x1.size) ws3 (by rw [hgl]; decide) hgb (fun W e=>(QdK 0 hgl (zbx e r2_1 (Ne.symm (zaz (qL hgw b2)))) (fun i hi=>QdB [] [#[.int .i64 ep],#[.int .i64 fr],#[.int .i64 no],#[.slice a_s sealed.length c_s]] grp 0 i (0+i) kj rfl (by rw [hgl]; exact hi)) (Qaq (zbx e r2_1 (Ne.symm (zaz (qL hgw b2))))) (qR _) (by decide)))).mono (by rintro e w' ⟨rfl,h1,h2⟩; exact ⟨_,rfl,rfl,h1,h2⟩)) fun v5 W2 h5=>?_
  obtain ⟨rfl,q2,ws5⟩:=h5
  have x2:GW base gw w W2:=zb5 x1 q2
  refine Qal ?_
  refine hK4 _ _ ?_
  refine wp_seq_k fun K6 hK6=>?_
  refine Qae ?_
  refine Qab (.pointer (some ⟨gw,0,none⟩)) 8 rfl kj kj ?_
  refine Qab (.pointer (some ⟨g2,32,none⟩)) 9 rfl kj kj ?_
  have r2_2:=(GW.row q2 r2_1 (by decide) (Ne.symm (zaz (qL hgw b2))))
  refine Qab (.int .i64 ep) 10 rfl kj (Qad 3 _ g2 32 35 _ (.int .i64 ep) _ r2_2 rfl kj (Qam [ints .u8 (grp)] [#[.int .i64 ep]] [#[.int .i64 fr],#[.int .i64 no],#[.slice a_s sealed.length c_s]] 32 ((Qat _ _).trans hgl) 0 _ rfl) kj) ?_
  refine Qav (fun v W'=>v=.tuple #[]∧GW base gw W2 W'∧WSt base gw (numS (rawS (s) grp) ep 4) W') 51 #[.pointer (some ⟨gw,0,none⟩),.int .i64 ep,.int .i64 4] 11 rfl kj kj ((QfU base gw _ ep 4 _ (qT hbw x2.size) ws5 (by decide)).mono (by rintro e w' ⟨rfl,h1,h2⟩; exact ⟨_,rfl,rfl,h1,h2⟩)) fun v7 W3 h7=>?_
  obtain ⟨rfl,q3,ws7⟩:=h7
  have x3:GW base gw w W3:=zb5 x2 q3
  refine Qal ?_
  refine hK6 _ _ ?_
  refine wp_seq_k fun K8 hK8=>?_
  refine Qae ?_
  refine Qab (.pointer (some ⟨gw,0,none⟩)) 12 rfl kj kj ?_
  refine Qab (.pointer (some ⟨g2,33,none⟩)) 13 rfl kj kj ?_
  have r2_3:=(GW.row q3 r2_2 (by decide) (Ne.symm (zaz (qL hgw b2))))
  refine Qab (.int .i64 fr) 14 rfl kj (Qad 3 _ g2 33 35 _ (.int .i64 fr) _ r2_3 rfl kj (Qam [ints .u8 (grp),#[.int .i64 ep]] [#[.int .i64 fr]] [#[.int .i64 no],#[.slice a_s sealed.length c_s]] 33 (by rw [Qac,Qac]; simp only [qS,cat,((Qat _ _).trans hgl)]; rfl) 0 _ rfl) kj) ?_
  refine Qav (fun v W'=>v=.tuple #[]∧GW base gw W3 W'∧WSt base gw (leafS (numS (rawS (s) grp) ep 4) fr) W') 52 #[.pointer (some ⟨gw,0,none⟩),.int .i64 fr] 15 rfl kj kj ((QoN base gw _ fr _ (qT hbw x3.size) ws7).mono (by rintro e w' ⟨rfl,h1,h2⟩; exact ⟨_,rfl,rfl,h1,h2⟩)) fun v9 W4 h9=>?_
  obtain ⟨rfl,q4,ws9⟩:=h9
  have x4:GW base gw w W4:=zb5 x3 q4
  refine Qal ?_
  refine hK8 _ _ ?_
  refine wp_seq_k fun K10 hK10=>?_
  refine Qae ?_
  refine Qab (.pointer (some ⟨gw,0,none⟩)) 16 rfl kj kj ?_
  refine Qab (.pointer (some ⟨g2,34,none⟩)) 17 rfl kj kj ?_
  have r2_4:=(GW.row q4 r2_3 (by decide) (Ne.symm (zaz (qL hgw b2))))
  refine Qab (.int .i64 no) 18 rfl kj (Qad 3 _ g2 34 35 _ (.int .i64 no) _ r2_4 rfl kj (Qam [ints .u8 (grp),#[.int .i64 ep],#[.int .i64 fr]] [#[.int .i64 no]] [#[.slice a_s sealed.length c_s]] 34 (by rw [Qac,Qac,Qac]; simp only [qS,cat,((Qat _ _).trans hgl)]; rfl) 0 _ rfl) kj) ?_
  refine Qav (fun v W'=>v=.tuple #[]∧GW base gw W4 W'∧WSt base gw (numS (leafS (numS (rawS (s) grp) ep 4) fr) no 4) W') 51 #[.pointer (some ⟨gw,0,none⟩),.int .i64 no,.int .i64 4] 19 rfl kj kj ((QfU base gw _ no 4 _ (qT hbw x4.size) ws9 (by decide)).mono (by rintro e w' ⟨rfl,h1,h2⟩; exact ⟨_,rfl,rfl,h1,h2⟩)) fun v11 W5 h11=>?_
  obtain ⟨rfl,q5,ws11⟩:=h11
  have x5:GW base gw w W5:=zb5 x4 q5
  refine Qal ?_
  refine hK10 _ _ ?_
  refine Qae ?_
  refine Qab (.pointer (some ⟨gw,0,none⟩)) 20 rfl kj kj ?_
  refine Qab (.pointer (some ⟨g2,35,none⟩)) 21 rfl kj kj ?_
  have r2_5:=(GW.row q5 r2_4 (by decide) (Ne.symm (zaz (qL hgw b2))))
  refine Qab (.slice a_s sealed.length c_s) 22 rfl kj (Qad 33 _ g2 35 35 _ (.slice a_s sealed.length c_s) _ r2_5 rfl kj (Qam [ints .u8 (grp),#[.int .i64 ep],#[.int .i64 fr],#[.int .i64 no]] [#[.slice a_s sealed.length c_s]] [] 35 (by rw [Qac,Qac,Qac,Qac]; simp only [qS,cat,((Qat _ _).trans hgl)]; rfl) 0 _ rfl) kj) ?_
  refine Qav (fun v W'=>v=.tuple #[]∧GW base gw W5 W'∧WSt base gw (bytS (numS (leafS (numS (rawS (s) grp) ep 4) fr) no 4) sealed) W') 53 #[.pointer (some ⟨gw,0,none⟩),.slice a_s sealed.length c_s] 23 rfl kj kj ((Qol base gw _ sealed _ _ (qT hbw x5.size) hbg ws11 (by omega) hsb (QnH hs x5 hbg)).mono (by rintro e w' ⟨rfl,h1,h2⟩; exact ⟨_,rfl,rfl,h1,h2⟩)) fun v12 W6 h12=>?_
  obtain ⟨rfl,q6,ws12⟩:=h12
  have x6:GW base gw w W6:=zb5 x5 q6
  refine Qal ?_
  repeat (first | with_reducible refine goX1 ?_ | with_reducible refine goX2 ?_ | with_reducible refine goX3 ?_)
  exact (show bodyPost _ _ _ .normal _ _ from end0 rfl ⟨rfl,x6,ws12⟩)
end Wr
end
section
namespace Wr
open Go Go.RowKit
open Rely Auto Own Sha
theorem QjA (grp : List Int) (ep fr no:Int) (sealed:List Int) (a_s:Option Addr) (c_s:Nat) (w:World) (hgl:grp.length=32) (hgb:Qai grp) (hsl:sealed.length≤1000000) (hsb:Qai sealed) (hs:RdK .u8 w.heap.size sealed (.slice a_s sealed.length c_s) w):Calls Tryd.prog 35 #[.agg (cat [ints .u8 (grp),#[.int .i64 ep],#[.int .i64 fr],#[.int .i64 no],#[.slice a_s sealed.length c_s]]),.func (.func 36) #[] #[]] w (QbF w (PutR w.heap.size (packS (some []) grp ep fr no sealed))):=by
 refine enter 22 [(0,.agg (cat [ints .u8 (grp),#[.int .i64 ep],#[.int .i64 fr],#[.int .i64 no],#[.slice a_s sealed.length c_s]])),(1,.func (.func 36) #[] #[])] Tryd.func35 rfl rfl kj rfl ?_
 refine wp_seq_k fun K1 hK1=>?_
 refine Qae ?_
 refine Qar (cat [ints .u8 (grp),#[.int .i64 ep],#[.int .i64 fr],#[.int .i64 no],#[.slice a_s sealed.length c_s]]) 35 2 rfl kj kj fun g2 W1 l2 e1 r2_1=>?_
 have x1:Ext w W1:=zbu (zbr w) e1
 have b2:w.heap.size≤g2:=qT (zbr w).size l2
 refine Qab (.slice none 0 0) 4 rfl kj kj ?_
 refine Qab (.nilIface) 5 rfl kj kj ?_
 refine Qal ?_
 refine hK1 _ _ ?_
 refine wp_seq_k fun K3 hK3=>?_
 refine Qae ?_
 refine Qab (.agg (cat [#[.slice none 0 0],#[.bool false]])) 7 rfl kj kj ?_
 refine Qar (cat [#[.slice none 0 0],#[.bool false]]) 109 8 rfl kj kj fun g4 W2 l4 e2 r4_2=>?_
 have x2:Ext w W2:=zbu x1 e2
 have b4:w.heap.size≤g4:=qT x1.size l4
 refine Qab (.pointer (some ⟨g4,0,none⟩)) 6 rfl kj kj ?_
 refine Qal ?_
 refine hK3 _ _ ?_
 refine wp_seq_k fun K5 hK5=>?_
 refine Qae ?_
 refine Qab (.func (.func 36) #[] #[]) 9 rfl kj kj ?_
 refine Qab (.pointer (some ⟨g4,0,none⟩)) 10 rfl kj kj ?_
 have r2_2:=(Qaa r2_1 e2)
 refine Qab (.agg (cat [ints .u8 (grp),#[.int .i64 ep],#[.int .i64 fr],#[.int .i64 no],#[.slice a_s sealed.length c_s]])) 11 rfl kj (Qap 35 _ g2 35 _ _ r2_2 rfl kj kj (isz (n:=36) kj (by rw [Qac,Qac,Qac,Qac,Qac]; simp only [qS,cat,((Qat _ _).trans hgl)]; rfl))) ?_
 refine Qav (fun v W'=>v=.tuple #[]∧GW W1.heap.size g4 W2 W'∧WSt W1.heap.size g4 (packS (some []) grp ep fr no sealed) W') 36 #[.pointer (some ⟨g4,0,none⟩),.agg (cat [ints .u8 (grp),#[.int .i64 ep],#[.int .i64 fr],#[.int .i64 no],#[.slice a_s sealed.length c_s]])] 12 rfl kj kj ((Qm5 W1.heap.size g4 (some []) grp ep fr no sealed a_s c_s _ (qT (qR _) e2.size) l4 ⟨_,[],false,r4_2,QeE .u8 5 _ _,za5 _,(fun x hx=>by cases hx),rfl⟩ hgl hgb hsl hsb (RdK.more (RdK.ext hs x2) (qT (qR _) e1.size))).mono (by rintro e w' ⟨rfl,h1,h2⟩; exact ⟨_,rfl,rfl,h1,h2⟩)) fun v6 W3 h6=>?_
 obtain ⟨rfl,q3,u,xs,bad,rb3,ho,-,-,hS⟩:=h6
 have x3:Ext w W3:=GW.back x2 q3 (qT (qR _) e1.size) b4
 obtain ⟨au,cu,rfl,-⟩:=id (zbz ho)
 refine Qal ?_
 refine hK5 _ _ ?_
 refine wp_seq_k fun K7 hK7=>?_
 refine wp_seq_k fun K8 hK8=>?_
 refine Qae ?_
 refine Qab (.pointer (some ⟨g4,0,none⟩)) 13 rfl kj kj ?_
 refine Qab (.pointer (some ⟨g4,0,none⟩)) 14 rfl kj kj ?_
 refine Qab (.pointer (some ⟨g4,1,none⟩)) 15 rfl kj kj ?_
 refine Qab (.bool bad) 16 rfl kj (Qad 4 _ g4 1 109 _ (.bool bad) _ rb3 rfl kj kj kj) ?_
 refine Qal ?_
 refine hK8 _ _ ?_
 refine Qa2 (t:=bad) kj (fun c9=>?_) (fun c9=>?_)
 ·skip
  refine wp_seq_k fun K10 hK10=>?_
  refine Qae ?_
  refine Qab (.iface 41 (.int .i64 3)) 17 rfl kj kj ?_
  refine Qab (.slice none 0 0) 4 rfl kj kj ?_
  refine Qab (.iface 41 (.int .i64 3)) 5 rfl kj kj ?_
  refine Qal ?_
  refine hK10 _ _ ?_
  refine wp_ret ?_
  repeat (first | with_reducible refine goR1 ?_ | with_reducible refine goR2 ?_)
  exact (show bodyPost _ _ _ .ret _ _ from ret2 (.slice none 0 0) (.iface 41 (.int .i64 3)) rfl (Qaz kj) (Qaz kj) ⟨_,rfl,x3,by rw [hS,c9]; exact rfl⟩)
 ·skip
  refine wp_skip ?_
  refine hK7 _ _ ?_
  refine wp_seq_k fun K11 hK11=>?_
  refine Qae ?_
  refine Qab (.pointer (some ⟨g4,0,none⟩)) 18 rfl kj kj ?_
  refine Qab (.pointer (some ⟨g4,0,none⟩)) 19 rfl kj kj ?_
  refine Qab (.pointer (some ⟨g4,0,none⟩)) 20 rfl kj kj ?_
  refine Qab (.slice au xs.length cu) 21 rfl kj (Qad 33 _ g4 0 109 _ (.slice au xs.length cu) _ rb3 rfl kj kj kj) ?_
  refine Qab (.slice au xs.length cu) 4 rfl kj kj ?_
  refine Qab (.nilIface) 5 rfl kj kj ?_
  refine Qal ?_
  refine hK11 _ _ ?_
  refine wp_ret ?_
  repeat (first | with_reducible refine goR1 ?_ | with_reducible refine goR2 ?_)
  exact (show bodyPost _ _ _ .ret _ _ from ret2 (.slice au xs.length cu) (.nilIface) rfl (Qaz kj) (Qaz kj) ⟨_,rfl,x3,by rw [hS,c9]; exact ⟨_,rfl,zby (qT (qR _) e1.size) ho⟩⟩)
theorem PutPacket_S (grp : List Int) (ep fr no:Int) (sealed:List Int) (a_s:Option Addr) (c_s:Nat) (w:World) (hgl:grp.length=32) (hgb:Qai grp) (hsl:sealed.length≤1000000) (hsb:Qai sealed) (hs:RdK .u8 w.heap.size sealed (.slice a_s sealed.length c_s) w) (xs:List Int) (hS:packS (some []) grp ep fr no sealed=some xs):Calls Tryd.prog 22 #[.agg (cat [ints .u8 (grp),#[.int .i64 ep],#[.int .i64 fr],#[.int .i64 no],#[.slice a_s sealed.length c_s]])] w (QbF w (PutR w.heap.size (some xs))):=by
  refine enter 8 [(0,.agg (cat [ints .u8 (grp),#[.int .i64 ep],#[.int .i64 fr],#[.int .i64 no],#[.slice a_s sealed.length c_s]]))] Tryd.func22 rfl rfl kj rfl ?_
  refine wp_seq_k fun K1 hK1=>?_
  refine Qae ?_
  refine Qar (cat [ints .u8 (grp),#[.int .i64 ep],#[.int .i64 fr],#[.int .i64 no],#[.slice a_s sealed.length c_s]]) 35 1 rfl kj kj fun g2 W1 l2 e1 r2_1=>?_
  have x1:Ext w W1:=zbu (zbr w) e1
  have b2:w.heap.size≤g2:=qT (zbr w).size l2
  refine Qab (.slice none 0 0) 2 rfl kj kj ?_
  refine Qab (.nilIface) 3 rfl kj kj ?_
  refine Qal ?_
  refine hK1 _ _ ?_
  refine wp_seq_k fun K3 hK3=>?_
  refine Qae ?_
  refine Qab (.agg (cat [ints .u8 (grp),#[.int .i64 ep],#[.int .i64 fr],#[.int .i64 no],#[.slice a_s sealed.length c_s]])) 4 rfl kj (Qap 35 _ g2 35 _ _ r2_1 rfl kj kj (isz (n:=36) kj (by rw [Qac,Qac,Qac,Qac,Qac]; simp only [qS,cat,((Qat _ _).trans hgl)]; rfl))) ?_
  refine Qav (fun v W'=>(PutR W1.heap.size (packS (some []) grp ep fr no sealed)) v W'∧Ext W1 W') 35 #[.agg (cat [ints .u8 (grp),#[.int .i64 ep],#[.int .i64 fr],#[.int .i64 no],#[.slice a_s sealed.length c_s]]),.func (.func 36) #[] #[]] 5 rfl kj kj ((QjA grp ep fr no sealed a_s c_s _ hgl hgb hsl hsb (RdK.here (RdK.ext hs x1))).mono (by rintro e w' ⟨v,rfl,e1,hv⟩; exact ⟨v,rfl,hv,e1⟩)) fun vv4 W2 hh4=>?_
  obtain ⟨hv4,e2⟩:=hh4
  have x2:Ext w W2:=zbu x1 e2
  rw [hS] at hv4
  obtain ⟨u5_,rfl,hu5_⟩:=hv4
  obtain ⟨a5_,c5_,rfl,-⟩:=id (zbz hu5_)
  refine Qab (.slice a5_ ((xs).length) c5_) 6 rfl kj kj ?_
  refine Qab (.nilIface) 7 rfl kj kj ?_
  refine Qab (.slice a5_ ((xs).length) c5_) 2 rfl kj kj ?_
  refine Qab (.nilIface) 3 rfl kj kj ?_
  refine Qal ?_
  refine hK3 _ _ ?_
  refine wp_ret ?_
  repeat (first | with_reducible refine goR1 ?_ | with_reducible refine goR2 ?_)
  exact (show bodyPost _ _ _ .ret _ _ from ret2 (.slice a5_ ((xs).length) c5_) (.nilIface) rfl (Qaz kj) (Qaz kj) ⟨_,rfl,x2,_,rfl,zby x1.size hu5_⟩)
end Wr
end
section
section
namespace Rely
open Go Go.RowKit
def Qoz (M : Array Nat) (n len:Nat):Bool:=(zaU len).all fun j=>decide (j<n) || (zaU n).all fun i=>(M.getD j 0).testBit i
def Qea (len n:Nat):Array Bool:=(zao n true++zao (len-n) false).toArray
def okZ (l : List Oper) (n N:Nat) (S:List Src):Bool :=
  let M:=masks l #[]
  decide (n≤l.length)&&Qc6 l M 0 (l.take n) S&&QdI N (l.take n)&&Qdj 0 l&&Qoz M n l.length &&
  (l.drop n).all (fun o=>match o.dst with | some d=>(l.take n).all (·.dst != some d) | none=>true)
section
variable {P : Program} {R : World → World → Prop} {w0 : World} {a0 : Act}
theorem Qfq {l : List Oper} {n N:Nat} {S:List Src} {E:List Fact} {Q:Exit→Act→World→Prop} (hok:okZ l n N S=true) (hN:a0.tmps.size=N) (hrf:∀ a,R a a) (htr:∀ {a b c:World},R a b→R b c→R a c)
    (hE:E.length=(l.take n).length) (hst:∀ φ∈E,Qb9 R φ)
    (hop:∀ j o s,(l.take n)[j]? = some o→S[j]? = some s→opOk P R w0 (slots a0) E o s (E.getD j fun _ _=>True))
    (hfin:∀ W,R w0 W→fin (fun a W=>wpAny P .any l.toArray Q (l.length-n) (Qea l.length n) a W) (l.take n) E a0 W) :
    ∀ (fuel:Nat) (listed:Array Bool) (a:Act) (W:World) (vs:Nat→Value),Inv R w0 a0 l.toArray E n listed a W vs→fuel=left l.toArray listed→wpAny P .any l.toArray Q fuel listed a W:=by
  simp only [okZ,Bool.and_eq_true,decide_eq_true_eq] at hok
  obtain ⟨⟨⟨⟨⟨hn,hsrc⟩,hdst⟩,hedge⟩,htail⟩,hdt⟩:=hok
  have hlen:(l.take n).length=n:=by simp [hn]
  have hget:∀ i,i<n→(l.take n)[i]? = l[i]?:=fun i hi=>by simp [hi]
  have hgd:∀ i,(E.getD i fun _ _=>True)=(fun _ _=>True)∨(E.getD i fun _ _=>True)∈E:=fun i=>by
    rcases zas i E.length with h | h
    · right; simp [h]
    · left; simp [zaV h]
  have hstg:∀ i,Qb9 R (E.getD i fun _ _=>True):=fun i=>by
    rcases hgd i with h | h
    · rw [h]; exact fun _ _ _ _ _=>trivial
    · exact hst _ h
  have hanc:∀ j i,((masks l #[]).getD j 0).testBit i=true→Anc l.toArray i j:=QcA l.toArray l #[] (fun j=>by simp) (fun j i h=>by simp at h)
  have count:∀ (listed:Array Bool),(∀ i,i<n→listed.getD i true=true)→(∀ i,n≤i→i<l.length→listed.getD i true=false)→left l.toArray listed=l.length-n:=by
    intro listed h1 h2
    unfold left
    simp only [zaW]
    have:∀ m,m≤l.length→(zaU m).countP (fun i=>!listed.getD i true)=m-n:=by
      intro m
      induction m with
      | zero=>intro _; simp
      | succ m ih =>
        intro hm
        rw [zaX,zaY,ih (by omega),zaZ]
        by_cases hmn:m<n
        · simp only [h1 m hmn,Bool.not_true,Bool.false_eq_true,if_false]; omega
        · simp only [h2 m (by omega) (by omega),Bool.not_false,if_true]; omega
    exact this l.length (qR _)
  have done:∀ (fuel:Nat) (listed:Array Bool) (a:Act) (W:World) (vs:Nat→Value),Inv R w0 a0 l.toArray E n listed a W vs→fuel=left l.toArray listed→(∀ i,i<n→listed.getD i true=true)→wpAny P .any l.toArray Q fuel listed a W:=by
    intro fuel listed a W vs inv hf hall
    have hs:listed.size=l.length:=by simpa using inv.size
    have hall':∀ i,i<n→listed.getD i false=true:=fun i hi=>by
      cases hx:listed.getD i false with
      | true=>rfl
      | false=>have:=getD_in (by omega) hx; rw [hall i hi] at this; cases this
    have hl:listed=Qea l.length n:=by
      refine zba fun i=>?_
      unfold Qea
      by_cases h1:i<l.length
      · have h2:listed[i]? = some (listed.getD i false):=by simp [zbb,Array.getElem?_eq_getElem (show i<listed.size by omega)]
        rw [h2]
        by_cases h3:i<n
        · rw [hall' i h3]; simp [List.getElem?_append,h3]
        · rw [inv.tail i (by omega)]
          simp only [zbc]
          rw [zat (by simp; omega),qZ,List.getElem?_replicate,if_pos (by omega)]
      · rw [zaJ (by omega),zbc,zaV (by simp; omega)]
    have hfu:fuel=l.length-n:=by rw [hf]; exact count listed hall (fun i h1 h2=>getD_in (by omega) (inv.tail i h1))
    rw [hl,hfu]
    have hq:=Qgb (l.take n) E a0 vs 0 (hfin W inv.rel) hE (fun i hi=>by
      rw [za9]
      exact inv.facts i (hall' i (by omega)) (by omega))
    have heq:QaW (l.take n) vs 0 a0=a:=by
      have hsz:=Qcf (l.take n) vs 0 a0
      have ht:(QaW (l.take n) vs 0 a0).tmps=a.tmps:=by
        refine zba fun t=>?_
        by_cases hw:∃ (i:Nat) (o:Oper),(l.take n)[i]? = some o∧o.dst=some t
        · obtain ⟨i,o,hi,ho⟩:=hw
          have hin:i<n:=by have:=(za2.1 hi).1; omega
          rw [QbU (l.take n) vs 0 a0 t i o hdst hN hi ho,za9]
          exact (inv.vals i o t (hall' i hin) hin (by rw [hget i hin] at hi; simpa using hi) ho).symm
        · rw [QbE (l.take n) vs 0 a0 t (fun o ho he=>by
            obtain ⟨i,hi⟩:=zaw.1 ho
            exact hw ⟨i,o,hi,he⟩)]
          refine (inv.rest t fun i o _ hin hi he=>hw ⟨i,o,by rw [hget i hin]; simpa using hi,he⟩).symm
      have hd:=hsz.2.trans inv.defers.symm
      generalize QaW (l.take n) vs 0 a0=b at *
      cases a; cases b
      simp_all
    rw [heq] at hq
    exact hq
  have main:∀ (fuel:Nat) (listed:Array Bool) (a:Act) (W:World) (vs:Nat→Value),Inv R w0 a0 l.toArray E n listed a W vs→fuel=left l.toArray listed→wpAny P .any l.toArray Q fuel listed a W:=by
    intro fuel
    induction fuel with
    | zero =>
      intro listed a W vs inv hf
      refine done 0 listed a W vs inv hf fun i hi=>?_
      cases hx:listed.getD i true with
      | true=>rfl
      | false =>
        have:=QeJ (ops:=l.toArray) (by simp; omega) hx
        omega
    | succ fuel ih =>
      intro listed a W vs inv hf
      by_cases hA:∀ i,i<n→listed.getD i true=true
      · exact done _ listed a W vs inv hf hA
      · have hs:listed.size=l.length:=by simpa using inv.size
        obtain ⟨i0,hi0,hu0⟩:∃ i,i<n∧listed.getD i true=false:=by
          refine Classical.byContradiction fun hc=>hA fun i hi=>?_
          cases hx:listed.getD i true with
          | true=>rfl
          | false=>exact absurd ⟨i,hi,hx⟩ hc
        refine ⟨fun hr=>?_,fun j hj=>?_⟩
        · obtain ⟨j,hj⟩:=QbT hedge (listed:=listed) i0 (by omega) hu0
          rw [hr] at hj; cases hj
        · obtain ⟨hju,oj,hoj,_⟩:=mem_ready.1 hj
          have hoj':l[j]? = some oj:=by simpa using hoj
          have hjl:j<l.length:=(za2.1 hoj').1
          have hjn:j<n:=by
            rcases zas j n with h | h
            · exact h
            · exfalso
              have h3:=zbd.1 htail j (zbe.2 hjl)
              simp only [Bool.or_eq_true,decide_eq_true_eq] at h3
              rcases h3 with h3 | h3
              · omega
              · have h4:=zbd.1 h3 i0 (zbe.2 (by omega))
                have:=Qbs inv.closed hj (hanc j i0 h4)
                rw [QaS this] at hu0
                cases hu0
          obtain ⟨s,hsj,hso⟩:=QdT (l.take n) S 0 hsrc j oj (by rw [hget j hjn]; exact hoj')
          rw [za9] at hso
          simp only [Qhb,Bool.and_eq_true] at hso
          obtain ⟨hg,hrd⟩:=hso
          have hg':QcN l.toArray oj=some s.guard:=by simpa using hg
          have holds:∀ (r:List (Tmp×Option Nat)),r.all (QcT l (masks l #[]) j)=true→Qc4 (slots a0) E (slots a) W r:=by
            intro r
            induction r with
            | nil=>intro _; trivial
            | cons x r ihr =>
              intro hr
              simp only [List.all_cons,Bool.and_eq_true] at hr
              obtain ⟨t,si⟩:=x
              cases si with
              | none =>
                refine ⟨?_,ihr hr.2⟩
                have h1:=hr.1
                simp only [QcT] at h1
                have h2:a.tmps[t]? = a0.tmps[t]?:=inv.rest t fun i o hli hin hio hd=>by
                  have h3:=zbd.1 h1 (o,i) (by
                    rw [zaw]
                    refine ⟨i,?_⟩
                    rw [List.getElem?_zipIdx]
                    have:l[i]? = some o:=by simpa using hio
                    simp [this])
                  simp only [hd,bne_self_eq_false,Bool.false_or,Bool.or_eq_true,beq_iff_eq] at h3
                  have hlj:listed.getD j false=true:=by
                    rcases h3 with h3 | h3
                    · exact inv.closed.anc (hanc i j h3) hli
                    · rw [←h3]; exact hli
                  rw [QaS hlj] at hju
                  cases hju
                simp only [slots,zbb,h2]
              | some i =>
                refine ⟨?_,ihr hr.2⟩
                have h1:=hr.1
                simp only [QcT,Bool.and_eq_true,decide_eq_true_eq,beq_iff_eq] at h1
                obtain ⟨⟨hij,hbit⟩,hdi⟩:=h1
                have hli:=Qbs inv.closed hj (hanc j i hbit)
                obtain ⟨oi,hoi,hdi'⟩:∃ oi,l[i]? = some oi∧oi.dst=some t:=by
                  cases hx:l[i]? with
                  | none=>rw [hx] at hdi; cases hdi
                  | some oi=>rw [hx] at hdi; exact ⟨oi,rfl,hdi⟩
                have hv:=inv.vals i oi t hli (by omega) (by simpa using hoi) hdi'
                have:slots a t=vs i:=by simp only [slots,zbb,hv,Option.getD_some]
                rw [this]
                exact inv.facts i hli (by omega)
          have hopj:=hop j oj s (by rw [hget j hjn]; exact hoj') hsj (slots a) W inv.rel (holds s.reads hrd)
          have next:∀ v W',R W W'→(E.getD j fun _ _=>True) v W'→wpAny P .any l.toArray Q fuel (listed.setIfInBounds j true) (a.put oj.dst v) W':=by
            intro v W' hR hφ
            have hjs:j<listed.size:=by omega
            have hlist:∀ i,(listed.setIfInBounds j true).getD i false=true→i=j∨listed.getD i false=true:=fun i hi=>by
              by_cases hij:j=i
              · exact .inl hij.symm
              · rw [getD_set_ne false hij] at hi; exact .inr hi
            refine ih _ _ W' (fun i=>if i=j then v else vs i) ⟨by simp [inv.size],inv.closed.set hj,htr inv.rel hR,(put_defers _ _ _).trans inv.defers,(Qdc _ _ _).trans inv.asize,?_,?_,?_,?_⟩ ?_
            · intro i hi hin
              by_cases hij:i=j
              · subst hij; simpa using hφ
              · simp only [hij,if_false]
                rcases hlist i hi with h | h
                · exact absurd h hij
                · exact hstg i _ _ _ hR (inv.facts i h hin)
            · intro i o d hi hin hio hd
              by_cases hij:i=j
              · subst hij
                obtain rfl:o=oj:=Option.some.inj (hio.symm.trans hoj)
                rw [hd,Qc5 _ _ _ (by rw [inv.asize,hN]; exact Qet (l.take n) hdst i o d (by rw [hget i hin]; exact hoj') hd)]
                simp
              · simp only [hij,if_false]
                rcases hlist i hi with h | h
                · exact absurd h hij
                · rw [Qb5 _ _ _ _ (Qes (l.take n) hdst i j o oj d (by rw [hget i hin]; simpa using hio) (by rw [hget j hjn]; exact hoj') hij hd)]
                  exact inv.vals i o d h hin hio hd
            · intro t ht
              rw [Qb5 _ _ _ _ (ht j oj (by simp [Array.getElem?_setIfInBounds_self_of_lt hjs]) hjn hoj)]
              exact inv.rest t fun i o hi hin hio=>ht i o (getD_set_true hi) hin hio
            · intro i hi
              rw [getD_set_ne false (by omega)]
              exact inv.tail i hi
            · have:=QdA hju inv.size
              omega
          refine QbX hoj ?_
          rw [QbL hg']
          by_cases hb:gOk s.guard (slots a)=true
          · rw [if_pos hb]
            refine QeZ (R:=R) (W:=W) (φ:=E.getD j fun _ _=>True) (fun {_ _ _} h1 h2=>htr h1 h2) ?_ next
            cases hgd':s.guard with
            | none=>rw [hgd'] at hopj; exact hopj
            | some db =>
              rw [hgd'] at hopj hb
              exact (if_pos hb).mp hopj
          · rw [if_neg hb]
            refine next undef W (hrf W) ?_
            cases hgd':s.guard with
            | none=>rw [hgd'] at hb; exact absurd rfl hb
            | some db =>
              rw [hgd'] at hopj hb
              exact (if_neg hb).mp hopj
  exact main
def Qiw {P : Program} {R:World→World→Prop} {Q:Exit→Act→World→Prop} {a:Act} {w:World} {l:List Oper} {n:Nat} (F:List Fact→Prop):Prop :=
  ∀ E,(∀ W,R w.drew W→fin (fun a W=>wpAny P .any l.toArray Q (l.length-n) (Qea l.length n) a W) (l.take n) E a W)→F E
theorem Qiw.out {P : Program} {R:World→World→Prop} {Q:Exit→Act→World→Prop} {a:Act} {w:World} {l:List Oper} {n:Nat} {F:List Fact→Prop} (h:Qiw (P:=P) (R:=R) (Q:=Q) (a:=a) (w:=w) (l:=l) (n:=n) F) {E:List Fact}
    (k:∀ W,R w.drew W→fin (fun a W=>wpAny P .any l.toArray Q (l.length-n) (Qea l.length n) a W) (l.take n) E a W):F E:=h E k
theorem QeQ {id : Nat} {Q:Exit→Act→World→Prop} {a:Act} {w:World} {l:List Oper} (R:World→World→Prop) (n N:Nat) (S:List Src) (hm:P.follows .mixedOrders=true) (hok:okZ l n N S=true) (hN:a.tmps.size=N)
    (hrf:∀ a,R a a) (htr:∀ {a b c:World},R a b→R b c→R a c)
    (h:∀ (F:List Fact→Prop) (r0:Tmp→Value),r0=slots a→Qiw (P:=P) (R:=R) (Q:=Q) (a:=a) (w:=w) (l:=l) (n:=n) F→relies P R w.drew r0 F (l.take n) S []):(zaM id l.toArray true).wp P Q a w:=by
  have hok':=hok
  simp only [okZ,Bool.and_eq_true,decide_eq_true_eq] at hok'
  obtain ⟨⟨⟨⟨⟨hn,hsrc⟩,hdst⟩,hedge⟩,htail⟩,hdt⟩:=hok'
  obtain ⟨E,hl,_,hst,hop,hfin⟩:=QcF (M:=masks l #[]) (l.take n) S [] (h (fun E=>∀ W,R w.drew W→fin (fun a W=>wpAny P .any l.toArray Q (l.length-n) (Qea l.length n) a W) (l.take n) E a W) _ rfl (show Qiw _ from fun _ h=>h)) hsrc (fun _ h=>by cases h)
  refine wp_region_any hm ?_
  have hcount:l.toArray.size=left l.toArray (zaL l.toArray.size false):=by
    unfold left
    have:∀ m,m≤l.toArray.size→(zaU m).countP (fun i=>!(zaL l.toArray.size false).getD i true)=m:=by
      intro m
      induction m with
      | zero=>intro _; simp
      | succ m ih =>
        intro hm
        rw [zaX,zaY,ih (by omega),zaZ]
        have:(zaL l.toArray.size false).getD m true=false:=by simp at hm ⊢; simp [show m<l.length by omega]
        simp only [this,Bool.not_false,if_true]
    exact (this _ (qR _)).symm
  refine Qfq (R:=R) (w0:=w.drew) (a0:=a) hok hN hrf htr (by simpa using hl) hst (fun j o s hj hs=>by simpa using hop j o s hj hs) hfin _ _ a _ (fun _=>undef) ⟨by simp,?_,hrf _,rfl,rfl,?_,?_,?_,?_⟩ hcount
  · intro j o ho hl
    rw [getD_replicate_false] at hl; cases hl
  · intro i hi; rw [getD_replicate_false] at hi; cases hi
  · intro i o d hi; rw [getD_replicate_false] at hi; cases hi
  · intro t _; rfl
  · intro i _; exact getD_replicate_false _ _
end
end Rely
end
namespace Wk
open Go Go.RowKit
open Rely Auto
section
variable {P : Program} {ops : Array Oper} {Q : Exit → Act → World → Prop} {o : Oper} {N : Nat} {L : Env} {w : World} {ds : List Deferred} {fuel : Nat} {listed : Array Bool} {k : Nat}
structure WZ (P : Program) (ops : Array Oper) (Q : Exit → Act → World → Prop) (fuel : Nat) (listed : Array Bool) (a : Act) (w : World) : Prop where
  out:wpAny P .any ops Q fuel listed a w
theorem wz_val (k : Nat) (v:Value) (d:Nat) (ho:ops[k]? = some o) (hd:o.dst=some d) (hg:Qbm ops o N L=some true) (hc:(zaN ops&&zaO .any ops listed k&&(zaG .any ops listed).contains k)=true)
    (hQ:∀ c a w,Q (.panic c) (a.put o.dst v) w→Q (.panic c) a w) (h:∀ W,(execOp (Rely.look (envN N L)) o).run P W=.ok (.value v) W) (kk:WZ P ops Q fuel (listed.setIfInBounds k true) (Qaw ds N ((d,v)::L)) w):WZ P ops Q (fuel+1) listed (Qaw ds N L) w:=by
  simp only [Bool.and_eq_true] at hc
  refine ⟨wpAny_take ho hc.1.1 hc.1.2 hc.2 hQ (.inl ⟨Qbh hg,fun W=>?_⟩) ?_⟩
  · rw [QaO]; exact h W
  · rw [hd,QaN]; exact kk.out
theorem wz_store (k : Nat) (g:Nat) (old cs:Array Value) (t:TypeId) (hgr:w.heap[g]? = some (.cells old t)) (hr:zaG .any ops listed=[k]) (ho:ops[k]? = some o) (hd:o.dst=none) (hg:Qbm ops o N L=some true)
    (h:(execOp (Rely.look (envN N L)) o).run P w=.ok .skip (w.setRow g cs)) (kk:∀ W,Puts w g W→W.heap[g]? = some (.cells cs t)→WZ P ops Q fuel (listed.setIfInBounds k true) (Qaw ds N L) W):WZ P ops Q (fuel+1) listed (Qaw ds N L) w:=by
  refine ⟨wpAny_all hr (by simp) fun i hi=>?_⟩
  obtain rfl:i=k:=by simpa using hi
  unfold wpOp
  rw [ho]
  simp only [Qbh hg,if_true]
  refine .inl ?_
  unfold Oper.wp
  rw [QaO,h]
  show wpAny _ _ _ _ _ _ _ _
  rw [hd]
  exact (kk _ (QaV _ _ _) (setRow_heap _ _ _ _ _ _ hgr)).out
theorem wz_nil (hr : zaG .any ops listed=[]) (h:Q .normal (Qaw ds N L) w):WZ P ops Q fuel listed (Qaw ds N L) w:=⟨wpAny_done hr h fuel⟩
theorem any_regionEZ {id : Nat} {l:List Oper} (n:Nat) (S:List Src) (hm:P.follows .mixedOrders=true) (hok:okZ l n N S=true)
    (h:∀ F:List KE→Prop,(∀ C,(∀ W,Ext w W→finE (fun L W=>WZ P l.toArray Q (l.length-n) (Qea l.length n) (Qaw ds N L) W) (l.take n) C L W)→F C)→Qbt P Ext w.drew N L F (l.take n) S []) :
    (zaM id l.toArray true).wp P Q (Qaw ds N L) w:=by
  refine QeQ Ext n N S hm hok (QcQ N L) zbr zbs fun F r0 hr hF=>?_
  rw [QbN] at hr
  subst hr
  have:=h (fun C=>∀ W,Ext w.drew W→finE (fun L W=>WZ P l.toArray Q (l.length-n) (Qea l.length n) (Qaw ds N L) W) (l.take n) C L W) (fun C h W hR=>h W (zbs (Qaj w) hR))
  exact Qc2 (G:=F) (fun C h=>hF.out fun W hR=>Qkr (Q:=fun a W=>wpAny P .any l.toArray Q (l.length-n) (Qea l.length n) a W) _ _ _ (Qdw (fun L W h=>h.out) _ _ _ _ (h W hR))) _ _ [] this
end
end Wk
end
section
namespace Pk
open Go Go.RowKit
open Rely Auto Own Sha
open Cha
open Ae hiding run_storeQ
open Cn hiding nb_new run_extractT
section
open Wk
variable {P : Program} {ops : Array Oper} {Q : Exit → Act → World → Prop} {o : Oper} {N : Nat} {L : Env} {w : World} {ds : List Deferred} {fuel : Nat} {listed : Array Bool} {k : Nat} {a : Act} {Rd : World → Prop}
theorem Qd3 {Rd : World→Prop} {k fuel N:Nat} {o:Oper} {listed:Array Bool} {ds:List Deferred} {L:Env} {w:World} (g:Nat) (old cs:Array Value) (t:TypeId) (hgr:w.heap[g]? = some (.cells old t)) (ho:ops[k]? = some o) (hd:o.dst=none) (hg:Qbm ops o N L=some true)
    (h:(execOp (Rely.look (envN N L)) o).run P w=.ok .skip (w.setRow g cs)) (hR:∀ W,Puts w g W→Rd W) (kk:∀ W,Puts w g W→W.heap[g]? = some (.cells cs t)→WB P ops Q Rd fuel (listed.setIfInBounds k true) (Qaw ds N L) W):WO P ops Q Rd k fuel listed (Qaw ds N L) w:=by
  refine ⟨?_⟩
  unfold wpOp
  rw [ho]
  simp only [Qbh hg,if_true]
  refine .inl ?_
  unfold Oper.wp
  rw [QaO,h]
  show _∧allR _ _ _ _ _ _ _ _
  rw [hd]
  exact ⟨hR _ (QaV _ _ _),(kk _ (QaV _ _ _) (setRow_heap _ _ _ _ _ _ hgr)).out (hR _ (QaV _ _ _))⟩
theorem Qk7 {K : Act→World→Prop} {d:Nat} {R:Value→World→Prop} (ho:ops[k]? = some o) (hd:o.dst=some d) (hg:zaH o (yielded ops a.tmps)=true) (h:∃ f args,(execOp a.eval o).run P w=.ok (.enter f args) w∧Calls P f args w fun e W=>∃ v,e=.returned v∧R v W) (hK:∀ v W,R v W→K (a.put (some d) v) W):wpOp P ops Q k K a w:=by
  unfold wpOp
  rw [ho]
  simp only [hg,if_true]
  refine .inl ?_
  unfold Oper.wp
  obtain ⟨f,args,h1,h2⟩:=h
  rw [h1]
  refine h2.mono ?_
  rintro e w' ⟨v,rfl,h3⟩
  show K _ _
  rw [hd]; exact hK v w' h3
theorem QlS {K : Act→World→Prop} {d:Nat} {R:Value→World→Prop} (ho:ops[k]? = some o) (hd:o.dst=some d) (hg:zaH o (yielded ops a.tmps)=true) (h:∃ v W,(execOp a.eval o).run P w=.ok (.value v) W∧R v W) (hK:∀ v W,R v W→K (a.put (some d) v) W):wpOp P ops Q k K a w:=by
  unfold wpOp
  rw [ho]
  simp only [hg,if_true]
  refine .inl ?_
  unfold Oper.wp
  obtain ⟨v,W,h1,h2⟩:=h
  rw [h1]
  show K _ _
  rw [hd]; exact hK v W h2
theorem Qiu (d : Nat) (v:Value):∀ (p L:Env),(∀ x∈p,x.1≠d)→Qaw ds N (p++(d,v)::L)=Qaw ds N ((d,v)::(p++L))
  | [],L,_=>rfl
  | (e,u)::p,L,h=>by
    have h1:=Qiu d v p L (fun x hx=>h x (zbf _ hx))
    rw [zaF,←QaN,h1,←QaN,Act.put_comm _ v u (fun x hx hy=>h (e,u) zbg (by cases hx; exact Option.some.inj hy)),QaN,QaN]
    rfl
theorem Qft (k l m:Nat) {o1 o2:Oper} (ho1:ops[k]? = some o1) (ho2:ops[l]? = some o2) (hr:zaG .any ops listed=[k,l]) (hr2:zaG .any ops (listed.setIfInBounds l true)=[k])
    (hap:(o1.apart ops o2&&o2.apart ops o1&&zaN ops)=true) (d1 d2:Nat) (hd1:o1.dst=some d1) (hd2:o2.dst=some d2) (hg1:Qbm ops o1 N L=some true) (hg2:∀ L',Qbm ops o2 N L'=some true)
    (Pre:World→Prop) (Kp:World→World→Prop) (φ ψ:Value→World→Prop) (pf:Value→Env) (LA LB LF:Array Bool) (hLF:LA.setIfInBounds l true=LF) (hLB:LF=LB) (hpf:∀ u,∀ x∈pf u,x.1≠d2) (hd:d1≠d2)
    (pe:∀ W W',Ext W W'→Pre W→Pre W') (re:∀ W W',Rd W→Ext W W'→Rd W') (φe:∀ v W W',Ext W W'→φ v W→φ v W') (ψk:∀ v W W',Rd W→Kp W W'→ψ v W→ψ v W')
    (h1:∀ W,Rd W→Pre W→∃ f args,(execOp (Rely.look (envN N L)) o1).run P W=.ok (.enter f args) W∧Calls P f args W fun e W'=>∃ u,e=.returned (.tuple #[u,.nilIface])∧Rd W'∧Kp W W'∧φ u W')
    (h2:∀ L' W,Rd W→∃ v W',(execOp (Rely.look (envN N L')) o2).run P W=.ok (.value v) W'∧Ext W W'∧ψ v W') (hw:Pre w)
    (fA:∀ (u:Value) (W:World),Rd W→WO P ops Q Rd l fuel LA (Qaw ds N (pf u++(d1,.tuple #[u,.nilIface])::L)) W→WB P ops Q Rd (fuel+m+1) (listed.setIfInBounds k true) (Qaw ds N ((d1,.tuple #[u,.nilIface])::L)) W)
    (fB:∀ (u v2:Value) (W:World),Rd W→WB P ops Q Rd fuel LB (Qaw ds N (pf u++(d1,.tuple #[u,.nilIface])::(d2,v2)::L)) W→WB P ops Q Rd (fuel+m) ((listed.setIfInBounds l true).setIfInBounds k true) (Qaw ds N ((d1,.tuple #[u,.nilIface])::(d2,v2)::L)) W)
    (kk:∀ (u v2:Value) (W:World),φ u W→ψ v2 W→Rd W→WB P ops Q Rd fuel LF (Qaw ds N ((d2,v2)::(pf u++(d1,.tuple #[u,.nilIface])::L))) W):WB P ops Q Rd (fuel+m+2) listed (Qaw ds N L) w:=by
  simp only [Bool.and_eq_true] at hap
  obtain ⟨⟨ha1,ha2⟩,hsl⟩:=hap
  obtain ⟨p1,p2,p3⟩:=Oper.apart_spec ha1
  have hs1:=fun cs b=>zaP hsl k o1 cs b ho1
  rw [hd1,hd2] at p2
  rw [hd2] at p3
  refine ⟨fun hR=>⟨fun h0=>(by rw [hr] at h0; cases h0),fun i hi=>?_⟩⟩
  rw [hr] at hi
  rcases (by simpa using hi:i=k∨i=l) with rfl | rfl
  · refine Qk7 (R:=fun v W'=>∃ u,v=.tuple #[u,.nilIface]∧Rd W'∧Kp w W'∧φ u W') ho1 hd1 (Qbh hg1) (by rw [QaO]; obtain ⟨f,args,a1,a2⟩:=h1 w hR hw; exact ⟨f,args,a1,a2.mono fun e W' ⟨u,b1,b2⟩=>⟨_,b1,u,rfl,b2⟩⟩) fun v1 W1 ⟨u,hv,q1⟩=>⟨q1.1,?_⟩
    subst hv
    rw [QaN]
    refine (fA u W1 q1.1 ⟨?_⟩).out q1.1
    refine QlS (R:=fun v W'=>Ext W1 W'∧ψ v W') ho2 hd2 (Qbh (hg2 _)) (by rw [QaO]; exact h2 _ W1 q1.1) fun v2 W2 q2=>⟨re _ _ q1.1 q2.1,?_⟩
    rw [QaN,hLF]
    exact (kk u v2 W2 (φe _ _ _ q2.1 q1.2.2) q2.2 (re _ _ q1.1 q2.1)).out (re _ _ q1.1 q2.1)
  · refine QlS (R:=fun v W'=>Ext w W'∧ψ v W') ho2 hd2 (Qbh (hg2 _)) (by rw [QaO]; exact h2 _ w hR) fun v2 W1 q2=>⟨re _ _ hR q2.1,fun h0=>(by rw [hr2] at h0; cases h0),fun j hj=>?_⟩
    rw [hr2] at hj
    obtain rfl:j=k:=by simpa using hj
    refine Qk7 (R:=fun v W'=>∃ u,v=.tuple #[u,.nilIface]∧Rd W'∧Kp W1 W'∧φ u W') ho1 hd1 ?_ (by rw [execOp_put (ops:=ops) o1 hs1 _ (some d2) v2 p3,QaO]; obtain ⟨f,args,a1,a2⟩:=h1 W1 (re _ _ hR q2.1) (pe _ _ q2.1 hw); exact ⟨f,args,a1,a2.mono fun e W' ⟨u,b1,b2⟩=>⟨_,b1,u,rfl,b2⟩⟩) fun v1 W2 ⟨u,hv,q1⟩=>⟨q1.1,?_⟩
    · rw [wanted_put o1 _ (some d2) v2 p3]; exact Qbh hg1
    · subst hv
      rw [QaN,QaN]
      refine (fB u v2 W2 q1.1 ?_).out q1.1
      have hm:=Qiu (ds:=ds) (N:=N) d2 v2 (pf u++[(d1,.tuple #[u,.nilIface])]) L (fun x hx=>by
        rcases za6.1 hx with h | h
        · exact hpf u x h
        · obtain rfl:=zab.1 h
          exact hd)
      simp only [zar,zaF,za0] at hm
      rw [hm,←hLB]
      exact kk u v2 W2 q1.2.2 (ψk _ _ _ (re _ _ hR q2.1) q1.2.1 q2.2) q1.1
end
theorem QbA.ext {b : Nat} {n:Int} {mv:List Int} {v:Value} {W W':World} (h:QbA b n mv v W) (e:Ext W W'):QbA b n mv v W':=by obtain ⟨u,h1,h2⟩:=h; exact ⟨u,h1,h2.ext e⟩
theorem QbA.base {a b:Nat} {n:Int} {mv:List Int} {v:Value} {W:World} (hab:a≤b) (h:QbA b n mv v W):QbA a n mv v W:=by obtain ⟨u,h1,h2⟩:=h; exact ⟨u,h1,zby hab h2⟩
theorem Qd8 {k : IntKind} {T:TypeId} {b g:Nat} {xs:List Int} {v:Value} {W W':World} (h:OwnN k T b xs v W) (q:Puts W g W') (hn:v.ownBlock≠some g):OwnN k T b xs v W':=h.keep fun k hk=>q.2.2.2.2 k (fun e=>hn (by rw [hk,e]))
theorem QiT {k : IntKind} {T T':TypeId} {base g:Nat} {xs:List Int} {v:Value} {W:World} {c:Array Value} (h:OwnN k T base xs v W) (r:W.heap[g]? = some (.cells c T')) (hne:T≠T'):v.ownBlock≠some g:=Wr.nb_typ h r hne
end Pk
end
section
namespace Pk
open Go Go.RowKit
open Rely Auto Own Sha
open Cha
open Ae hiding run_storeQ
open Cn hiding nb_new run_extractT
theorem Qij (pl : Nat→Option (Nat×Nat)):∀ (ps:List (Nat×Nat×Value×Array Value)) (pre:List (Array Value)) (rest:Array Value) (off:Nat),(cat pre).size=off→okPl pl off ps→tot ps≤rest.size →
    Instr.fill pl (cat pre++rest) (ps.map fun x=>(x.1,x.2.2.1))=some (cat (pre++ps.map fun x=>x.2.2.2)++rest.extract (tot ps) rest.size)
  | [],pre,rest,off,_,_,ht=>by
    simp [Instr.fill,tot]
  | (i,n,v,p)::r,pre,rest,off,hoff,⟨h1,h2,h3,h4⟩,ht=>by
    subst h2
    have hn:n≤rest.size:=by rw [tot] at ht; omega
    simp only [zah,Instr.fill,h1,h3]
    rw [if_neg (by simp; omega)]
    have hz:(v.cells.zipIdx.foldl (fun cs (x:Value×Nat)=>cs.setIfInBounds (off+x.2) x.1) (cat pre++rest))=cat (pre++[v.cells])++rest.extract n rest.size:=by
      have e1:v.cells.zipIdx=(v.cells.toList.zipIdx 0).toArray:=by
        apply zak
        simp
      rw [e1,zal,QcK]
      · have e2:rest=rest.extract 0 n++rest.extract n rest.size:=by
          rw [Array.extract_append_extract,Nat.max_eq_right hn]
          simp
        have e3:(cat pre++rest)=cat (pre++([rest.extract 0 n]++[rest.extract n rest.size])):=by
          rw [QaD]
          congr 1
        rw [zam,e3]
        have:=QdF pre [rest.extract 0 n] [v.cells] [rest.extract n rest.size] off hoff (by show v.cells.size=(rest.extract 0 n).size; simp; omega)
        rw [show (cat [v.cells]).toList=v.cells.toList from rfl] at this
        rw [this,←zar,QaD (pre++[v.cells])]
        rfl
      · rfl
    have key:=Qij pl r (pre++[v.cells]) (rest.extract n rest.size) (off+n) (by rw [QaD]; show (cat pre++v.cells).size=_; simp; omega) h4 (by rw [tot] at ht; simp; omega)
    rw [←hz] at key
    rw [zar] at key
    rw [key,tot]
    congr 2
    rw [Array.extract_extract]
    simp
    congr 1
    rw [tot] at ht
    omega
theorem Qfy {P : Program} {ρ:Operand→Value} {o:Oper} {w:World} (t:TypeId) (parts:Array (Nat×Operand)) (z:Value) (places:Array (Nat×Nat)) (off:Nat) (pre:List (Array Value)) (rest0:Array Value) (ps:List (Nat×Nat×Value×Array Value)) (rest:List (Array Value))
    (ho:o.op=.build t parts) (hv:(parts.map fun (i,x)=>(i,ρ x)).toList=ps.map fun x=>(x.1,x.2.2.1)) (hoff:(cat pre).size=off) (hp:okPl (fun i=>places[i]?) off ps) (hz0:z.cells=cat pre++rest0) (ht:tot ps≤rest0.size) (hr:rest0.extract (tot ps) rest0.size=cat rest)
    (hz:(zeroValue t).run P w=.ok z w) (hu:P.underlying t=some (.struct (P.fieldsOf t))) (hm:((P.fieldsOf t).mapM fun f=>do pure (f.offset,←sizeOf f.type):Sem (Array (Nat×Nat))).run P w=.ok places w) :
    (execOp ρ o).run P w=.ok (.value (.agg (cat (pre++(ps.map fun x=>x.2.2.2)++rest)))) w:=by
  have:=Qij (fun i=>places[i]?) ps pre rest0 off hoff hp ht
  rw [←hz0,hr,←QaD] at this
  rw [←hv] at this
  have hB:(Instr.build t (parts.map fun (i,x)=>(i,ρ x))).run P w=.ok (.agg (cat (pre++(ps.map fun x=>x.2.2.2)++rest))) w:=by
    unfold Instr.build
    rw [zad,hz,zaf,zad,run_underlying hu w,zaf]
    show (Sem.run P _ w)=_
    rw [zad,hm,zaf]
    simp only [this]
    rfl
  unfold execOp
  simp only [ho,zad,hB,zaf,zae]
theorem shrN (a : Nat) (s:Int) (c:Nat) (h:(2:Int)^min s.toNat zaS.bits=(c:Int)):((a:Nat):Int).fdiv (2^min s.toNat zaS.bits)=((a/c:Nat):Int):=by
  rw [h,Int.fdiv_eq_ediv_of_nonneg _ (Int.natCast_nonneg _),Int.natCast_ediv]
theorem QgU (a : Nat):zaR.wrap ((a:Nat):Int)=((a%256:Nat):Int):=by
  have h3:∀ z:Int,zaR.wrap z=z%256:=fun _=>rfl
  rw [h3]; omega
def hdV (n : Nat):List Int:=[((n/16777216%256:Nat):Int),((n/65536%256:Nat):Int),((n/256%256:Nat):Int),((n%256:Nat):Int)]
theorem Qkn (n : Nat):(hdV n).length=4:=rfl
theorem QdY (n : Nat):Qai (hdV n):=fun x hx=>by
  unfold hdV at hx
  simp only [za7,zan,or_false] at hx
  rcases hx with rfl | rfl | rfl | rfl <;> omega
theorem Qde {W : World} {a b:Nat} {c d:Array Value} {T T':TypeId} (h:W.heap[a]? = some (.cells c T)) (k:W.heap[b]? = some (.cells d T')) (hT:T≠T'):a≠b:=fun e=>by subst e; exact Qh8 h k hT
theorem nin {x cg cm:Nat} {s0 ts:List Int} {pl:Nat} {ms:List (Int×List Int)} {c:Array Value} {T:TypeId} {W:World} (r:W.heap[x]? = some (.cells c T)) (h:ChSt cg cm s0 ts pl ms W) (hT:T≠82):x∉[cg,cm]:=by
  obtain ⟨B,-,hr⟩:=h.row
  refine Qax (Qde r hr hT) (Qax (fun e=>?_) QaE)
  obtain ⟨es,cl,h1,-⟩:=h.mp
  subst e
  rw [r] at h1
  cases h1
theorem OwE.tail {base : Nat} {e:Ep} {v:Value} {W:World} (h:OwE base [e] v W):∃ (g c:Nat) (tl:Array Value),v=.slice (some ⟨g,0,none⟩) 1 c∧base≤g∧W.heap[g]? = some (.cells (cat [#[.pointer (some ⟨e.gc,0,none⟩)],ints .u8 e.grp,#[.int .i64 e.num],#[.int .i64 e.leaf],tl]) 55):=by
  rcases h.row.2 with ⟨-,e2⟩ | ⟨g,cap,cur,q1,q2,q3,q4,q5,q6,q7⟩
  · cases e2
  · refine ⟨g,cap,(cur.toList.drop 35).toArray,q1,q2,?_⟩
    have h1:cur.toList.take 35=(cat (epP e)).toList:=by
      have:cur.toList.take ([e].length*35)=_:=q7
      simpa using this
    have h2:cur=cat [#[.pointer (some ⟨e.gc,0,none⟩)],ints .u8 e.grp,#[.int .i64 e.num],#[.int .i64 e.leaf],(cur.toList.drop 35).toArray]:=by
      apply zak
      have h3:=zbh 35 cur.toList
      rw [h1] at h3
      refine Eq.trans h3.symm ?_
      unfold epP
      simp [cat]
    rw [←h2]; exact q3
theorem Qfl (gb ge ce gc:Nat) (tl:Array Value) (grp:List Int) (hgl:grp.length=32) (w:World) (hgb:w.heap[gb]? = some (.cells (cat [#[.slice (some ⟨ge,0,none⟩) 1 ce],#[.bool false]]) 49)):Calls Tryd.prog 16 #[.pointer (some ⟨gb,0,none⟩)] w (Ret w (.pointer (some ⟨ge,0,none⟩))):=by
  refine enter 24 [(0,.pointer (some ⟨gb,0,none⟩))] Tryd.func16 rfl rfl kj rfl ?_
  refine wp_seq_k fun K2 hK2=>?_
  refine Qae ?_
  refine Qab (.pointer none) 2 rfl kj kj ?_
  refine Qal ?_
  refine hK2 _ _ ?_
  refine wp_seq_k fun K3 hK3=>?_
  refine wp_seq_k fun K4 hK4=>?_
  refine Qae ?_
  refine Qab (.pointer (some ⟨gb,0,none⟩)) 3 rfl kj kj ?_
  refine Qab (.bool false) 4 rfl kj kj ?_
  refine Qab (.bool false) 5 rfl kj kj ?_
  refine Qab (.pointer (some ⟨gb,0,none⟩)) 6 rfl kj kj ?_
  refine Qab (.pointer (some ⟨gb,0,none⟩)) 7 rfl kj kj ?_
  refine Qab (.pointer (some ⟨gb,0,none⟩)) 8 rfl kj kj ?_
  refine Qab (.slice (some ⟨ge,0,none⟩) 1 ce) 9 rfl kj (Qad 47 _ gb 0 49 _ (.slice (some ⟨ge,0,none⟩) 1 ce) _ hgb rfl kj kj kj) ?_
  refine Qab (.int .i64 1) 10 rfl kj kj ?_
  refine Qab (.bool false) 11 rfl kj kj ?_
  refine Qab (.bool false) 12 rfl kj kj ?_
  refine Qal ?_
  refine hK4 _ _ ?_
  refine cond_false kj ?_
  refine wp_skip ?_
  refine hK3 _ _ ?_
  refine wp_seq_k fun K5 hK5=>?_
  refine QaL 11 [⟨none,[(0,none)]⟩,⟨none,[(13,some 0)]⟩,⟨none,[(14,some 1)]⟩,⟨none,[(15,some 2)]⟩,⟨none,[(0,none)]⟩,⟨none,[(17,some 4)]⟩,⟨none,[(18,some 5)]⟩,⟨none,[(19,some 6)]⟩,⟨none,[(20,some 7)]⟩,⟨none,[(21,some 8)]⟩,⟨none,[(16,some 3),(22,some 9)]⟩] kj kj fun F hF=>?_
  refine Qak (.pointer (some ⟨gb,0,none⟩)) kj kj (fun W=>by kernel_rfl) ?_
  refine Qak (.pointer (some ⟨gb,0,none⟩)) kj kj (fun W=>by kernel_rfl) ?_
  refine Qak (.pointer (some ⟨gb,0,none⟩)) kj kj (fun W=>by kernel_rfl) ?_
  refine Qa7 (.slice (some ⟨ge,0,none⟩) 1 ce) kj kj (fun W hR=>(Qad 47 _ gb 0 49 _ (.slice (some ⟨ge,0,none⟩) 1 ce) _ (Qaa (Qaa hgb (Qaj _)) hR) rfl kj kj kj)) ?_
  refine Qak (.pointer (some ⟨gb,0,none⟩)) kj kj (fun W=>by kernel_rfl) ?_
  refine Qak (.pointer (some ⟨gb,0,none⟩)) kj kj (fun W=>by kernel_rfl) ?_
  refine Qak (.pointer (some ⟨gb,0,none⟩)) kj kj (fun W=>by kernel_rfl) ?_
  refine Qa7 (.slice (some ⟨ge,0,none⟩) 1 ce) kj kj (fun W hR=>(Qad 47 _ gb 0 49 _ (.slice (some ⟨ge,0,none⟩) 1 ce) _ (Qaa (Qaa hgb (Qaj _)) hR) rfl kj kj kj)) ?_
  refine Qak (.int .i64 1) kj kj (fun W=>by kernel_rfl) ?_
  refine Qak (.int .i64 0) kj kj (fun W=>by kernel_rfl) ?_
  refine Qak (.pointer (some ⟨ge,0,none⟩)) kj kj (fun W=>by kernel_rfl) ?_
  refine QaQ (hF _ kj fun W1 e1=>?_)
  simp only [ups,up,Kn.val,zaB,zaC,zaD,zaE,za0,zaF]
  clear hF
  have x1:Ext w W1:=zbu (zbr w) e1
  refine Qab (.pointer (some ⟨ge,0,none⟩)) 2 rfl kj kj ?_
  refine Qal ?_
  refine hK5 _ _ ?_
  refine wp_ret ?_
  exact (show bodyPost _ _ _ .ret _ _ from ret1 (.pointer (some ⟨ge,0,none⟩)) rfl (Qaz kj) ⟨rfl,x1⟩)
end Pk
end
section
namespace Pk
open Go Go.RowKit
open Rely Auto Own Sha
open Cha
open Ae hiding run_storeQ
open Cn hiding nb_new run_extractT
theorem QgR (grp : List Int) (hgl:grp.length=32) (ep nu:Nat) (hep:ep<4294967296) (hnu:nu<4294967296) (a_t:Option Addr) (n_t c_t:Nat) (w:World):Calls Tryd.prog 21 #[.agg (cat [ints .u8 grp,#[.int .i64 ((ep:Nat):Int)],#[.int .i64 0],#[.int .i64 ((nu:Nat):Int)],#[.slice a_t n_t c_t]])] w (QbF w (OwnN .u8 5 w.heap.size (grp++hdV ep++[0]++hdV nu))):=by
  refine enter 50 [(0,.agg (cat [ints .u8 (grp),#[.int .i64 ((ep:Nat):Int)],#[.int .i64 0],#[.int .i64 ((nu:Nat):Int)],#[.slice a_t n_t c_t]]))] Tryd.func21 rfl rfl kj rfl <| sgC fun K1 hK1=>Qar (cat [ints .u8 (grp),#[.int .i64 ((ep:Nat):Int)],#[.int .i64 0],#[.int .i64 ((nu:Nat):Int)],#[.slice a_t n_t c_t]]) 35 1 rfl kj kj fun g2 W1 l2 e1 r2_1=>?_
  have x1:=zbu (zbr w) e1
  have b2:=qT (zbr w).size l2
  refine sg 1 kj <| sgN hK1 <| sgC fun K3 hK3=>QaU (ints .u8 ([])) 5 0 4 rfl kj kj fun g4 W2 l4 e2 r4_2=>?_
  have b4:=qT x1.size l4
  refine sg 2 kj ?_
  have r2_2:=(Qaa r2_1 e2)
  refine Qbk (k:=.u8) (T:=5) (xs:=[]) (ys:=grp) (V:=W1) 1 (.tmp 4) (.tmp 6) 33 rfl kj kj (by decide) 7 rfl kj kj kj (Qcu (xs:=[]) rfl l4 r4_2 (by decide)) (QdK 0 hgl r2_2 (fun i hi=>QdB [] [#[.int .i64 ((ep:Nat):Int)],#[.int .i64 0],#[.int .i64 ((nu:Nat):Int)],#[.slice a_t n_t c_t]] grp 0 i (0+i) kj rfl (by rw [hgl]; exact hi)) (Qaq r2_2) (qR _) (by decide)) (by simp [hgl]) (zbs (zbr W1) e2) fun u1 W3 f5 y3 l3=>?_
  have x3:=Ext.low (zbu x1 e2) l3 x1.size
  refine sg 1 kj <| sgN hK3 <| sgC fun K7 hK7=>sg 2 kj ?_
  have r2_3:=(Qb6 l3 r2_2 (Qaq r2_1))
  refine Qab (.int .i64 ((ep:Nat):Int)) 10 rfl kj (Qad 3 _ g2 32 35 _ (.int .i64 ((ep:Nat):Int)) _ r2_3 rfl kj (Qam [ints .u8 (grp)] [#[.int .i64 ((ep:Nat):Int)]] [#[.int .i64 0],#[.int .i64 ((nu:Nat):Int)],#[.slice a_t n_t c_t]] 32 (izT hgl) 0 _ rfl) kj) <| Qab (.int .i64 (((ep/16777216:Nat):Int))) 11 rfl kj (QaM .shr _ _ _ _ .i64 .u64 _ _ _ rfl kj kj (QbW _ _ _ _ _ _ (by omega) (shrN ep 24 16777216 (by decide)))) <| Qab (.int .u8 (((ep/16777216%256:Nat):Int))) 12 rfl kj (Qah (u:=.int .u8 (zaR.wrap (((ep/16777216:Nat):Int)))) kj (congrArg (zaT .u8) (QgU _))) <| sg 1 kj <| Qab (.int .i64 ((ep:Nat):Int)) 14 rfl kj (Qad 3 _ g2 32 35 _ (.int .i64 ((ep:Nat):Int)) _ r2_3 rfl kj (Qam [ints .u8 (grp)] [#[.int .i64 ((ep:Nat):Int)]] [#[.int .i64 0],#[.int .i64 ((nu:Nat):Int)],#[.slice a_t n_t c_t]] 32 (izT hgl) 0 _ rfl) kj) <| Qab (.int .i64 (((ep/65536:Nat):Int))) 15 rfl kj (QaM .shr _ _ _ _ .i64 .u64 _ _ _ rfl kj kj (QbW _ _ _ _ _ _ (by omega) (shrN ep 16 65536 (by decide)))) <| Qab (.int .u8 (((ep/65536%256:Nat):Int))) 16 rfl kj (Qah (u:=.int .u8 (zaR.wrap (((ep/65536:Nat):Int)))) kj (congrArg (zaT .u8) (QgU _))) <| sg 1 kj <| Qab (.int .i64 ((ep:Nat):Int)) 18 rfl kj (Qad 3 _ g2 32 35 _ (.int .i64 ((ep:Nat):Int)) _ r2_3 rfl kj (Qam [ints .u8 (grp)] [#[.int .i64 ((ep:Nat):Int)]] [#[.int .i64 0],#[.int .i64 ((nu:Nat):Int)],#[.slice a_t n_t c_t]] 32 (izT hgl) 0 _ rfl) kj) <| Qab (.int .i64 (((ep/256:Nat):Int))) 19 rfl kj (QaM .shr _ _ _ _ .i64 .u64 _ _ _ rfl kj kj (QbW _ _ _ _ _ _ (by omega) (shrN ep 8 256 (by decide)))) ?_
  refine Qab (.int .u8 (((ep/256%256:Nat):Int))) 20 rfl kj (Qah (u:=.int .u8 (zaR.wrap (((ep/256:Nat):Int)))) kj (congrArg (zaT .u8) (QgU _))) <| sg 1 kj <| Qab (.int .i64 ((ep:Nat):Int)) 22 rfl kj (Qad 3 _ g2 32 35 _ (.int .i64 ((ep:Nat):Int)) _ r2_3 rfl kj (Qam [ints .u8 (grp)] [#[.int .i64 ((ep:Nat):Int)]] [#[.int .i64 0],#[.int .i64 ((nu:Nat):Int)],#[.slice a_t n_t c_t]] 32 (izT hgl) 0 _ rfl) kj) <| Qab (.int .u8 (((ep%256:Nat):Int))) 23 rfl kj (Qah (u:=.int .u8 (zaR.wrap ((ep:Nat):Int))) kj (congrArg (zaT .u8) (QgU _))) <| QaU (ints .u8 ([(((ep/16777216%256:Nat):Int)),(((ep/65536%256:Nat):Int)),(((ep/256%256:Nat):Int)),(((ep%256:Nat):Int))])) 5 4 24 rfl kj kj fun g8 W4 l8 e4 r8_4=>?_
  have b8:=qT x3.size l8
  refine Qbk (k:=.u8) (T:=5) (xs:=[]++grp) (ys:=[(((ep/16777216%256:Nat):Int)),(((ep/65536%256:Nat):Int)),(((ep/256%256:Nat):Int)),(((ep%256:Nat):Int))]) (V:=W1) 1 (.tmp 8) (.tmp 24) 33 rfl kj kj (by decide) 25 rfl kj kj kj (f5.ext e4) (Qbp (xs:=[(((ep/16777216%256:Nat):Int)),(((ep/65536%256:Nat):Int)),(((ep/256%256:Nat):Int)),(((ep%256:Nat):Int))]) (n:=4) rfl r8_4 (Qaq r8_4) (show 4≤maxLen from by decide)) (by simp [hgl]) (zbs y3 e4) fun u2 W5 f10 y5 l5=>?_
  have x5:=Ext.low (zbu x3 e4) l5 x1.size
  refine sg 1 kj <| sgN hK7 <| sgC fun K12 hK12=>sg 2 kj ?_
  have r2_5:=(Qb6 l5 (Qaa r2_3 e4) (Qaq r2_1))
  refine Qab (.int .i64 0) 28 rfl kj (Qad 3 _ g2 33 35 _ (.int .i64 0) _ r2_5 rfl kj (Qam [ints .u8 (grp),#[.int .i64 ((ep:Nat):Int)]] [#[.int .i64 0]] [#[.int .i64 ((nu:Nat):Int)],#[.slice a_t n_t c_t]] 33 (by rw [Qac,Qac]; simp only [qS,cat,(izT hgl)]; rfl) 0 _ rfl) kj) ?_
  refine sg 1 kj <| QaU (ints .u8 ([0])) 5 1 30 rfl kj kj fun g13 W6 l13 e6 r13_6=>?_
  have b13:=qT x5.size l13
  refine Qbk (k:=.u8) (T:=5) (xs:=[]++grp++[(((ep/16777216%256:Nat):Int)),(((ep/65536%256:Nat):Int)),(((ep/256%256:Nat):Int)),(((ep%256:Nat):Int))]) (ys:=[0]) (V:=W1) 1 (.tmp 26) (.tmp 30) 33 rfl kj kj (by decide) 31 rfl kj kj kj (f10.ext e6) (Qbp (xs:=[0]) (n:=1) rfl r13_6 (Qaq r13_6) (show 1≤maxLen from by decide)) (by simp [hgl]) (zbs y5 e6) fun u3 W7 f15 y7 l7=>?_
  have x7:=Ext.low (zbu x5 e6) l7 x1.size
  refine sg 1 kj <| sgN hK12 <| sgC fun K17 hK17=>sg 2 kj ?_
  have r2_7:=(Qb6 l7 (Qaa r2_5 e6) (Qaq r2_1))
  refine Qab (.int .i64 ((nu:Nat):Int)) 34 rfl kj (Qad 3 _ g2 34 35 _ (.int .i64 ((nu:Nat):Int)) _ r2_7 rfl kj (Qam [ints .u8 (grp),#[.int .i64 ((ep:Nat):Int)],#[.int .i64 0]] [#[.int .i64 ((nu:Nat):Int)]] [#[.slice a_t n_t c_t]] 34 (by rw [Qac,Qac,Qac]; simp only [qS,cat,(izT hgl)]; rfl) 0 _ rfl) kj) ?_
  refine Qab (.int .i64 (((nu/16777216:Nat):Int))) 35 rfl kj (QaM .shr _ _ _ _ .i64 .u64 _ _ _ rfl kj kj (QbW _ _ _ _ _ _ (by omega) (shrN nu 24 16777216 (by decide)))) <| Qab (.int .u8 (((nu/16777216%256:Nat):Int))) 36 rfl kj (Qah (u:=.int .u8 (zaR.wrap (((nu/16777216:Nat):Int)))) kj (congrArg (zaT .u8) (QgU _))) <| sg 1 kj <| Qab (.int .i64 ((nu:Nat):Int)) 38 rfl kj (Qad 3 _ g2 34 35 _ (.int .i64 ((nu:Nat):Int)) _ r2_7 rfl kj (Qam [ints .u8 (grp),#[.int .i64 ((ep:Nat):Int)],#[.int .i64 0]] [#[.int .i64 ((nu:Nat):Int)]] [#[.slice a_t n_t c_t]] 34 (by rw [Qac,Qac,Qac]; simp only [qS,cat,(izT hgl)]; rfl) 0 _ rfl) kj) ?_
  refine Qab (.int .i64 (((nu/65536:Nat):Int))) 39 rfl kj (QaM .shr _ _ _ _ .i64 .u64 _ _ _ rfl kj kj (QbW _ _ _ _ _ _ (by omega) (shrN nu 16 65536 (by decide)))) <| Qab (.int .u8 (((nu/65536%256:Nat):Int))) 40 rfl kj (Qah (u:=.int .u8 (zaR.wrap (((nu/65536:Nat):Int)))) kj (congrArg (zaT .u8) (QgU _))) <| sg 1 kj <| Qab (.int .i64 ((nu:Nat):Int)) 42 rfl kj (Qad 3 _ g2 34 35 _ (.int .i64 ((nu:Nat):Int)) _ r2_7 rfl kj (Qam [ints .u8 (grp),#[.int .i64 ((ep:Nat):Int)],#[.int .i64 0]] [#[.int .i64 ((nu:Nat):Int)]] [#[.slice a_t n_t c_t]] 34 (by rw [Qac,Qac,Qac]; simp only [qS,cat,(izT hgl)]; rfl) 0 _ rfl) kj) ?_
  refine Qab (.int .i64 (((nu/256:Nat):Int))) 43 rfl kj (QaM .shr _ _ _ _ .i64 .u64 _ _ _ rfl kj kj (QbW _ _ _ _ _ _ (by omega) (shrN nu 8 256 (by decide)))) <| Qab (.int .u8 (((nu/256%256:Nat):Int))) 44 rfl kj (Qah (u:=.int .u8 (zaR.wrap (((nu/256:Nat):Int)))) kj (congrArg (zaT .u8) (QgU _))) <| sg 1 kj <| Qab (.int .i64 ((nu:Nat):Int)) 46 rfl kj (Qad 3 _ g2 34 35 _ (.int .i64 ((nu:Nat):Int)) _ r2_7 rfl kj (Qam [ints .u8 (grp),#[.int .i64 ((ep:Nat):Int)],#[.int .i64 0]] [#[.int .i64 ((nu:Nat):Int)]] [#[.slice a_t n_t c_t]] 34 (by rw [Qac,Qac,Qac]; simp only [qS,cat,(izT hgl)]; rfl) 0 _ rfl) kj) ?_
  refine Qab (.int .u8 (((nu%256:Nat):Int))) 47 rfl kj (Qah (u:=.int .u8 (zaR.wrap ((nu:Nat):Int))) kj (congrArg (zaT .u8) (QgU _))) <| QaU (ints .u8 ([(((nu/16777216%256:Nat):Int)),(((nu/65536%256:Nat):Int)),(((nu/256%256:Nat):Int)),(((nu%256:Nat):Int))])) 5 4 48 rfl kj kj fun g18 W8 l18 e8 r18_8=>?_
  have b18:=qT x7.size l18
  refine Qbk (k:=.u8) (T:=5) (xs:=[]++grp++[(((ep/16777216%256:Nat):Int)),(((ep/65536%256:Nat):Int)),(((ep/256%256:Nat):Int)),(((ep%256:Nat):Int))]++[0]) (ys:=[(((nu/16777216%256:Nat):Int)),(((nu/65536%256:Nat):Int)),(((nu/256%256:Nat):Int)),(((nu%256:Nat):Int))]) (V:=W1) 1 (.tmp 32) (.tmp 48) 33 rfl kj kj (by decide) 49 rfl kj kj kj (f15.ext e8) (Qbp (xs:=[(((nu/16777216%256:Nat):Int)),(((nu/65536%256:Nat):Int)),(((nu/256%256:Nat):Int)),(((nu%256:Nat):Int))]) (n:=4) rfl r18_8 (Qaq r18_8) (show 4≤maxLen from by decide)) (by simp [hgl]) (zbs y7 e8) fun u4 W9 f20 y9 l9=>sg 1 kj <| sgN hK17 <| wp_ret ?_
  exact (show bodyPost _ _ _ .ret _ _ from ret1 (u4) rfl (Qaz kj) ⟨_,rfl,(Ext.low (zbu x7 e8) l9 x1.size),zby x1.size f20⟩)
theorem QoV (gb ge ce:Nat) (w:World) (hgb:w.heap[gb]? = some (.cells (cat [#[.slice (some ⟨ge,0,none⟩) 1 ce],#[.bool false]]) 49)):Calls Tryd.prog 16 #[.pointer (some ⟨gb,0,none⟩)] w (Ret w (.pointer (some ⟨ge,0,none⟩))):=by
  refine enter 24 [(0,.pointer (some ⟨gb,0,none⟩))] Tryd.func16 rfl rfl kj rfl <| sgB kj <| wp_seq_k fun K3 hK3=>sgC fun K4 hK4=>sg 6 kj <| Qab (.slice (some ⟨ge,0,none⟩) 1 ce) 9 rfl kj (Qad 47 _ gb 0 49 _ (.slice (some ⟨ge,0,none⟩) 1 ce) _ hgb rfl kj kj kj) <| sg 3 kj <| sgN hK4 <| cond_false kj <| wp_skip ?_
  refine hK3 _ _ <| wp_seq_k fun K5 hK5=>QaL 11 [⟨none,[(0,none)]⟩,⟨none,[(13,some 0)]⟩,⟨none,[(14,some 1)]⟩,⟨none,[(15,some 2)]⟩,⟨none,[(0,none)]⟩,⟨none,[(17,some 4)]⟩,⟨none,[(18,some 5)]⟩,⟨none,[(19,some 6)]⟩,⟨none,[(20,some 7)]⟩,⟨none,[(21,some 8)]⟩,⟨none,[(16,some 3),(22,some 9)]⟩] kj kj fun F hF=>Qak (.pointer (some ⟨gb,0,none⟩)) kj kj (fun _=>kj) <| Qak (.pointer (some ⟨gb,0,none⟩)) kj kj (fun _=>kj) <| Qak (.pointer (some ⟨gb,0,none⟩)) kj kj (fun _=>kj) <| Qa7 (.slice (some ⟨ge,0,none⟩) 1 ce) kj kj (fun W hR=>(Qad 47 _ gb 0 49 _ (.slice (some ⟨ge,0,none⟩) 1 ce) _ (Qaa (Qaa hgb (Qaj _)) hR) rfl kj kj kj)) <| Qak (.pointer (some ⟨gb,0,none⟩)) kj kj (fun _=>kj) <| Qak (.pointer (some ⟨gb,0,none⟩)) kj kj (fun _=>kj) <| Qak (.pointer (some ⟨gb,0,none⟩)) kj kj (fun _=>kj) ?_
  refine Qa7 (.slice (some ⟨ge,0,none⟩) 1 ce) kj kj (fun W hR=>(Qad 47 _ gb 0 49 _ (.slice (some ⟨ge,0,none⟩) 1 ce) _ (Qaa (Qaa hgb (Qaj _)) hR) rfl kj kj kj)) <| Qak (.int .i64 1) kj kj (fun _=>kj) <| Qak (.int .i64 0) kj kj (fun _=>kj) <| Qak (.pointer (some ⟨ge,0,none⟩)) kj kj (fun _=>kj) <| QaQ (hF _ kj fun W1 e1=>?_)
  simp only [ups,up,Kn.val,zaB,zaC,zaD,zaE,za0,zaF]
  clear hF
  refine sg 1 kj <| sgN hK5 <| wp_ret ?_
  exact (show bodyPost _ _ _ .ret _ _ from ret1 (.pointer (some ⟨ge,0,none⟩)) rfl (Qaz kj) ⟨rfl,(zbu (zbr w) e1)⟩)
theorem QoU (gb ge ce:Nat) (w:World) (hgb:w.heap[gb]? = some (.cells (cat [#[.slice (some ⟨ge,0,none⟩) 2 ce],#[.bool false]]) 49)):Calls Tryd.prog 16 #[.pointer (some ⟨gb,0,none⟩)] w (Ret w (.pointer (some ⟨ge,35,none⟩))):=by
  refine enter 24 [(0,.pointer (some ⟨gb,0,none⟩))] Tryd.func16 rfl rfl kj rfl <| sgB kj <| wp_seq_k fun K3 hK3=>sgC fun K4 hK4=>sg 6 kj <| Qab (.slice (some ⟨ge,0,none⟩) 2 ce) 9 rfl kj (Qad 47 _ gb 0 49 _ (.slice (some ⟨ge,0,none⟩) 2 ce) _ hgb rfl kj kj kj) <| sg 3 kj <| sgN hK4 <| cond_false kj <| wp_skip ?_
  refine hK3 _ _ <| wp_seq_k fun K5 hK5=>QaL 11 [⟨none,[(0,none)]⟩,⟨none,[(13,some 0)]⟩,⟨none,[(14,some 1)]⟩,⟨none,[(15,some 2)]⟩,⟨none,[(0,none)]⟩,⟨none,[(17,some 4)]⟩,⟨none,[(18,some 5)]⟩,⟨none,[(19,some 6)]⟩,⟨none,[(20,some 7)]⟩,⟨none,[(21,some 8)]⟩,⟨none,[(16,some 3),(22,some 9)]⟩] kj kj fun F hF=>Qak (.pointer (some ⟨gb,0,none⟩)) kj kj (fun _=>kj) <| Qak (.pointer (some ⟨gb,0,none⟩)) kj kj (fun _=>kj) <| Qak (.pointer (some ⟨gb,0,none⟩)) kj kj (fun _=>kj) <| Qa7 (.slice (some ⟨ge,0,none⟩) 2 ce) kj kj (fun W hR=>(Qad 47 _ gb 0 49 _ (.slice (some ⟨ge,0,none⟩) 2 ce) _ (Qaa (Qaa hgb (Qaj _)) hR) rfl kj kj kj)) <| Qak (.pointer (some ⟨gb,0,none⟩)) kj kj (fun _=>kj) <| Qak (.pointer (some ⟨gb,0,none⟩)) kj kj (fun _=>kj) <| Qak (.pointer (some ⟨gb,0,none⟩)) kj kj (fun _=>kj) ?_
  refine Qa7 (.slice (some ⟨ge,0,none⟩) 2 ce) kj kj (fun W hR=>(Qad 47 _ gb 0 49 _ (.slice (some ⟨ge,0,none⟩) 2 ce) _ (Qaa (Qaa hgb (Qaj _)) hR) rfl kj kj kj)) <| Qak (.int .i64 2) kj kj (fun _=>kj) <| Qak (.int .i64 1) kj kj (fun _=>kj) <| Qak (.pointer (some ⟨ge,35,none⟩)) kj kj (fun _=>kj) <| QaQ (hF _ kj fun W1 e1=>?_)
  simp only [ups,up,Kn.val,zaB,zaC,zaD,zaE,za0,zaF]
  clear hF
  refine sg 1 kj <| sgN hK5 <| wp_ret ?_
  exact (show bodyPost _ _ _ .ret _ _ from ret1 (.pointer (some ⟨ge,35,none⟩)) rfl (Qaz kj) ⟨rfl,(zbu (zbr w) e1)⟩)
theorem QoT (gb ge ce:Nat) (w:World) (hgb:w.heap[gb]? = some (.cells (cat [#[.slice (some ⟨ge,0,none⟩) 3 ce],#[.bool false]]) 49)):Calls Tryd.prog 16 #[.pointer (some ⟨gb,0,none⟩)] w (Ret w (.pointer (some ⟨ge,70,none⟩))):=by
  refine enter 24 [(0,.pointer (some ⟨gb,0,none⟩))] Tryd.func16 rfl rfl kj rfl <| sgB kj <| wp_seq_k fun K3 hK3=>sgC fun K4 hK4=>sg 6 kj <| Qab (.slice (some ⟨ge,0,none⟩) 3 ce) 9 rfl kj (Qad 47 _ gb 0 49 _ (.slice (some ⟨ge,0,none⟩) 3 ce) _ hgb rfl kj kj kj) <| sg 3 kj <| sgN hK4 <| cond_false kj <| wp_skip ?_
  refine hK3 _ _ <| wp_seq_k fun K5 hK5=>QaL 11 [⟨none,[(0,none)]⟩,⟨none,[(13,some 0)]⟩,⟨none,[(14,some 1)]⟩,⟨none,[(15,some 2)]⟩,⟨none,[(0,none)]⟩,⟨none,[(17,some 4)]⟩,⟨none,[(18,some 5)]⟩,⟨none,[(19,some 6)]⟩,⟨none,[(20,some 7)]⟩,⟨none,[(21,some 8)]⟩,⟨none,[(16,some 3),(22,some 9)]⟩] kj kj fun F hF=>Qak (.pointer (some ⟨gb,0,none⟩)) kj kj (fun _=>kj) <| Qak (.pointer (some ⟨gb,0,none⟩)) kj kj (fun _=>kj) <| Qak (.pointer (some ⟨gb,0,none⟩)) kj kj (fun _=>kj) <| Qa7 (.slice (some ⟨ge,0,none⟩) 3 ce) kj kj (fun W hR=>(Qad 47 _ gb 0 49 _ (.slice (some ⟨ge,0,none⟩) 3 ce) _ (Qaa (Qaa hgb (Qaj _)) hR) rfl kj kj kj)) <| Qak (.pointer (some ⟨gb,0,none⟩)) kj kj (fun _=>kj) <| Qak (.pointer (some ⟨gb,0,none⟩)) kj kj (fun _=>kj) <| Qak (.pointer (some ⟨gb,0,none⟩)) kj kj (fun _=>kj) ?_
  refine Qa7 (.slice (some ⟨ge,0,none⟩) 3 ce) kj kj (fun W hR=>(Qad 47 _ gb 0 49 _ (.slice (some ⟨ge,0,none⟩) 3 ce) _ (Qaa (Qaa hgb (Qaj _)) hR) rfl kj kj kj)) <| Qak (.int .i64 3) kj kj (fun _=>kj) <| Qak (.int .i64 2) kj kj (fun _=>kj) <| Qak (.pointer (some ⟨ge,70,none⟩)) kj kj (fun _=>kj) <| QaQ (hF _ kj fun W1 e1=>?_)
  simp only [ups,up,Kn.val,zaB,zaC,zaD,zaE,za0,zaF]
  clear hF
  refine sg 1 kj <| sgN hK5 <| wp_ret ?_
  exact (show bodyPost _ _ _ .ret _ _ from ret1 (.pointer (some ⟨ge,70,none⟩)) rfl (Qaz kj) ⟨rfl,(zbu (zbr w) e1)⟩)
theorem QoS (gb ge ce:Nat) (w:World) (hgb:w.heap[gb]? = some (.cells (cat [#[.slice (some ⟨ge,0,none⟩) 4 ce],#[.bool false]]) 49)):Calls Tryd.prog 16 #[.pointer (some ⟨gb,0,none⟩)] w (Ret w (.pointer (some ⟨ge,105,none⟩))):=by
  refine enter 24 [(0,.pointer (some ⟨gb,0,none⟩))] Tryd.func16 rfl rfl kj rfl <| sgB kj <| wp_seq_k fun K3 hK3=>sgC fun K4 hK4=>sg 6 kj <| Qab (.slice (some ⟨ge,0,none⟩) 4 ce) 9 rfl kj (Qad 47 _ gb 0 49 _ (.slice (some ⟨ge,0,none⟩) 4 ce) _ hgb rfl kj kj kj) <| sg 3 kj <| sgN hK4 <| cond_false kj <| wp_skip ?_
  refine hK3 _ _ <| wp_seq_k fun K5 hK5=>QaL 11 [⟨none,[(0,none)]⟩,⟨none,[(13,some 0)]⟩,⟨none,[(14,some 1)]⟩,⟨none,[(15,some 2)]⟩,⟨none,[(0,none)]⟩,⟨none,[(17,some 4)]⟩,⟨none,[(18,some 5)]⟩,⟨none,[(19,some 6)]⟩,⟨none,[(20,some 7)]⟩,⟨none,[(21,some 8)]⟩,⟨none,[(16,some 3),(22,some 9)]⟩] kj kj fun F hF=>Qak (.pointer (some ⟨gb,0,none⟩)) kj kj (fun _=>kj) <| Qak (.pointer (some ⟨gb,0,none⟩)) kj kj (fun _=>kj) <| Qak (.pointer (some ⟨gb,0,none⟩)) kj kj (fun _=>kj) <| Qa7 (.slice (some ⟨ge,0,none⟩) 4 ce) kj kj (fun W hR=>(Qad 47 _ gb 0 49 _ (.slice (some ⟨ge,0,none⟩) 4 ce) _ (Qaa (Qaa hgb (Qaj _)) hR) rfl kj kj kj)) <| Qak (.pointer (some ⟨gb,0,none⟩)) kj kj (fun _=>kj) <| Qak (.pointer (some ⟨gb,0,none⟩)) kj kj (fun _=>kj) <| Qak (.pointer (some ⟨gb,0,none⟩)) kj kj (fun _=>kj) ?_
  refine Qa7 (.slice (some ⟨ge,0,none⟩) 4 ce) kj kj (fun W hR=>(Qad 47 _ gb 0 49 _ (.slice (some ⟨ge,0,none⟩) 4 ce) _ (Qaa (Qaa hgb (Qaj _)) hR) rfl kj kj kj)) <| Qak (.int .i64 4) kj kj (fun _=>kj) <| Qak (.int .i64 3) kj kj (fun _=>kj) <| Qak (.pointer (some ⟨ge,105,none⟩)) kj kj (fun _=>kj) <| QaQ (hF _ kj fun W1 e1=>?_)
  simp only [ups,up,Kn.val,zaB,zaC,zaD,zaE,za0,zaF]
  clear hF
  refine sg 1 kj <| sgN hK5 <| wp_ret ?_
  exact (show bodyPost _ _ _ .ret _ _ from ret1 (.pointer (some ⟨ge,105,none⟩)) rfl (Qaz kj) ⟨rfl,(zbu (zbr w) e1)⟩)
theorem QcX (gb ge ce n o:Nat) (w:World) (hgb:w.heap[gb]? = some (.cells (cat [#[.slice (some ⟨ge,0,none⟩) n ce],#[.bool false]]) 49)) (hn:1≤n∧n≤4) (ho:o+35=35*n):Calls Tryd.prog 16 #[.pointer (some ⟨gb,0,none⟩)] w (Ret w (.pointer (some ⟨ge,o,none⟩))):=by
  obtain rfl | rfl | rfl | rfl:n=1∨n=2∨n=3∨n=4:=by omega
  · obtain rfl:o=0:=by omega
    exact QoV gb ge ce w hgb
  · obtain rfl:o=35:=by omega
    exact QoU gb ge ce w hgb
  · obtain rfl:o=70:=by omega
    exact QoT gb ge ce w hgb
  · obtain rfl:o=105:=by omega
    exact QoS gb ge ce w hgb
end Pk
end
section
namespace Pk
open Go Go.RowKit
open Rely Auto Own Sha
open Cha
open Ae hiding run_storeQ
open Cn hiding nb_new run_extractT
theorem Ql0 (k : Nat) (h:k<1000000):zaS.wrap ((k:Int)+1)=((k+1:Nat):Int):=by rw [QbJ _ (by omega)]; rfl
theorem Qb4 {P : Program} {ρ:Operand→Value} {o:Oper} {w:World} (t:TypeId) (x y:Operand) (k:IntKind) (n g off len cap:Nat) (e:TypeId) (sz:Nat) (ho:o.op=.indexAddr t x y) (hx:ρ x=.slice (some ⟨g,off,none⟩) len cap) (hy:ρ y=.int k n)
    (hu:P.underlying t=some (.slice e)) (hs:(P.info? e).map (·.size)=some sz) (hn:n<len) (z:Nat) (hz:z=off+n*sz):(execOp ρ o).run P w=.ok (.value (.pointer (some ⟨g,z,none⟩))) w:=by
  subst hz
  cases hq:P.info? e with
  | none=>simp [hq] at hs
  | some i =>
    have hs':i.size=sz:=by simpa [hq] using hs
    have hadd:(⟨g,off,none⟩:Addr).add (n*sz)=⟨g,off+n*sz,none⟩:=by unfold Addr.add; split <;> simp_all
    have h0:(0:Int)≤(n:Int):=by omega
    have h1:(n:Int)<(len:Int):=by omega
    unfold execOp
    simp only [ho,hx,hy]
    simp [Instr.indexAt,asIntOf,run_underlying hu,sizeOf,typeInfo,hq,hs',h0,hn,hadd]
theorem Qhx {α β:Type} (f:α→List β) (k:Nat):∀ (es:List α),(∀ e∈es,(f e).length=k)→∀ i e,es[i]? = some e→(es.flatMap f).take (k*i)++(f e++(es.flatMap f).drop (k*i+k))=es.flatMap f∧k*i+k≤(es.flatMap f).length
  | [],_,_,_,h=>by simp at h
  | x::es,hl,0,e,h=>by
    obtain rfl:x=e:=by simpa using h
    have:=hl x zbg
    rw [zbi]
    constructor
    · rw [Nat.mul_zero,zaC,za0,za9,←this,List.drop_left]
    · rw [zac]; omega
  | x::es,hl,i+1,e,h=>by
    have hx:=hl x zbg
    obtain ⟨h1,h2⟩:=Qhx f k es (fun e he=>hl e (zbf _ he)) i e (by simpa using h)
    rw [zbi]
    have e1:k*(i+1)=(f x).length+k*i:=by rw [hx,Nat.mul_add]; omega
    have e2:k*(i+1)+k=(f x).length+(k*i+k):=by omega
    constructor
    · rw [e2,e1,List.take_length_add_append,List.drop_length_add_append,zar,h1]
    · rw [zac,e2]; omega
theorem Qga {α β:Type} (f:α→List β) (k:Nat):∀ (es:List α),(∀ e∈es,(f e).length=k)→(es.flatMap f).length=es.length*k
  | [],_=>by simp
  | x::es,h=>by
    rw [zbi,zac,h x zbg,Qga f k es (fun e he=>h e (zbf _ he)),zbj,Nat.succ_mul]; omega
def AtE (cur : Array Value) (es:List Ep):Prop:=∀ (i:Nat) (e:Ep),es[i]? = some e→∃ (P tl:Array Value),P.size=35*i∧cur=cat [P,#[.pointer (some ⟨e.gc,0,none⟩)],ints .u8 e.grp,#[.int .i64 e.num],#[.int .i64 e.leaf],tl]
theorem OwE.parts {base : Nat} {es:List Ep} {v:Value} {W:World} (h:OwE base es v W) (hne:es≠[]):∃ (g c:Nat) (cur:Array Value),v=.slice (some ⟨g,0,none⟩) es.length c∧base≤g∧W.heap[g]? = some (.cells cur 55)∧AtE cur es:=by
  rcases h.row.2 with ⟨-,e2⟩ | ⟨g,cap,cur,q1,q2,q3,q4,q5,q6,q7⟩
  · exact absurd (List.length_eq_zero_iff.1 e2) hne
  · refine ⟨g,cap,cur,q1,q2,q3,fun i e he=>?_⟩
    have hf:=Qhx (fun e=>(cat (epP e)).toList) 35 es (fun e he=>by rw [za8]; exact Qdi e (h.len e he)) i e he
    refine ⟨(cur.toList.take (35*i)).toArray,(cur.toList.drop (35*i+35)).toArray,?_,?_⟩
    · have:(cur.toList.take (es.length*35)).length≤cur.toList.length:=by rw [zbk]; omega
      rw [q7] at this
      simp only [zaW,zbk]
      omega
    · have h2:cur.toList.take (es.length*35)=_:=q7
      have h3:cur.toList=(es.flatMap fun e=>(cat (epP e)).toList)++cur.toList.drop (es.length*35):=by rw [←h2,zbh]
      have l1:(es.flatMap fun e=>(cat (epP e)).toList).length=es.length*35:=Qga _ 35 es (fun e he=>by rw [za8]; exact Qdi e (h.len e he))
      have h4:cur.toList=cur.toList.take (35*i)++((cat (epP e)).toList++cur.toList.drop (35*i+35)):=by
        have t1:cur.toList.take (35*i)=(es.flatMap fun e=>(cat (epP e)).toList).take (35*i):=by rw [h3,zbl (by omega)]
        have t2:cur.toList.drop (35*i+35)=(es.flatMap fun e=>(cat (epP e)).toList).drop (35*i+35)++cur.toList.drop (es.length*35):=by conv=>{ lhs; rw [h3] }; rw [List.drop_append_of_le_length hf.2]
        rw [t1,t2,←zar (cat (epP e)).toList,←zar,hf.1]; exact h3
      apply zak
      refine Eq.trans h4 ?_
      unfold epP
      simp [cat]
theorem of_n (gb ge ce n:Nat) (w:World) (hgb:w.heap[gb]? = some (.cells (cat [#[.slice (some ⟨ge,0,none⟩) n ce],#[.bool false]]) 49)) (grp:List Int) (hgl:grp.length=32) (es:List Ep) (hn:es.length=n) (hn4:n≤4) (cur:Array Value) (hge:w.heap[ge]? = some (.cells cur 55)) (hpt:AtE cur es) (hgr:∀ e∈es,e.grp=grp) (ep nu:Nat) (a_s:Option Addr) (n_s c_s:Nat) (j:Nat) (hj:j≤n) (hlt:∀ (i:Nat) (e:Ep),i<j→es[i]? = some e→e.num≠((ep:Nat):Int)) (r:Value)
  (hr:(j=n∧r=.pointer none)∨∃ (e:Ep) (o:Nat),es[j]? = some e∧e.num=((ep:Nat):Int)∧o=35*j∧r=.pointer (some ⟨ge,o,none⟩)):Calls Tryd.prog 23 #[.pointer (some ⟨gb,0,none⟩),.agg (cat [ints .u8 grp,#[.int .i64 ((ep:Nat):Int)],#[.int .i64 0],#[.int .i64 ((nu:Nat):Int)],#[.slice a_s n_s c_s]])] w (Ret w r):=by
 refine enter 39 [(0,.pointer (some ⟨gb,0,none⟩)),(1,.agg (cat [ints .u8 (grp),#[.int .i64 ((ep:Nat):Int)],#[.int .i64 0],#[.int .i64 ((nu:Nat):Int)],#[.slice a_s n_s c_s]]))] Tryd.func23 rfl rfl kj rfl <| sgC fun K3 hK3=>Qar (cat [ints .u8 (grp),#[.int .i64 ((ep:Nat):Int)],#[.int .i64 0],#[.int .i64 ((nu:Nat):Int)],#[.slice a_s n_s c_s]]) 35 3 rfl kj kj fun g4 W1 l4 e1 r4_1=>?_
 have b4:=qT (zbr w).size l4
 refine sg 1 kj <| sgN hK3 <| wp_seq_k fun K5 hK5=>sgC fun K6 hK6=>sg 3 kj ?_
 have r1_1:=(Qaa hgb e1)
 refine Qab (.slice (some ⟨ge,0,none⟩) n ce) 10 rfl kj (Qad 47 _ gb 0 49 _ (.slice (some ⟨ge,0,none⟩) n ce) _ r1_1 rfl kj kj kj) <| sg 2 kj <| sgN hK6 <| wp_block <| QaF (fun (s1:Nat)=>[(0,.pointer (some ⟨gb,0,none⟩)),(3,.pointer (some ⟨g4,0,none⟩)),(11,.int .i64 ((n:Nat):Int)),(12,.int .i64 ((s1:Nat):Int))]) (fun (s1:Nat) W=>(s1≤j)∧(Ext W1 W)∧(Ext w W)) (fun (s1:Nat)=>n-s1) 0 ⟨kj,kj,kj,kj,trivial⟩ ⟨(za5 _),(zbr W1),(zbu (zbr w) e1)⟩ fun s1 X1 V1 hI1=>?_
 obtain ⟨i,hs1⟩:∃ z,z=s1:=⟨_,rfl⟩
 subst hs1
 obtain ⟨hij0,kk1,xx1⟩:=hI1
 replace hij0:i≤j:=hij0
 replace kk1:Ext W1 V1:=kk1
 replace xx1:Ext w V1:=xx1
 have e2:=kk1
 refine sgB kj <| wp_seq_k fun K8 hK8=>Qa2 (t:=decide (((i:Nat):Int)<((n:Nat):Int))) kj (fun c9=>?_) (fun c9=>?_)
 ·skip
  have hlt13:i<n:=by have:=of_decide_eq_true c9; omega
  refine wp_skip <| hK8 _ _ <| wp_seq_k fun K10 hK10=>wp_block <| wp_seq_k fun K11 hK11=>?_
  rcases zas i j with hij | hij
  ·skip
   obtain ⟨e,he⟩:∃ e,es[i]? = some e:=⟨_,zbm (by omega)⟩
   have hnm:=hlt i e hij he
   have r2_1:=(Qaa hge e1)
   have r2_2:=(Qaa r2_1 e2)
   obtain ⟨P,tl,hP,hcu⟩:=hpt i e he
   rw [hgr e (zbn he)] at hcu
   obtain ⟨o,ho⟩:∃ o,o=35*i:=⟨_,rfl⟩
   rw [←ho] at hP
   refine sgA kj <| hK11 _ _ <| sgC fun K13 hK13=>sg 3 kj ?_
   have r1_2:=(Qaa r1_1 e2)
   refine Qab (.slice (some ⟨ge,0,none⟩) n ce) 18 rfl kj (Qad 47 _ gb 0 49 _ (.slice (some ⟨ge,0,none⟩) n ce) _ r1_2 rfl kj kj kj) <| sg 1 kj <| Qab (.pointer (some ⟨ge,o,none⟩)) 20 rfl kj (Qb4 47 _ _ .i64 i ge 0 n ce 55 35 rfl kj kj kj kj hlt13 o (by omega)) <| sg 1 kj <| sgN hK13 <| wp_seq_k fun K14 hK14=>QaL 16 [⟨none,[(6,none)]⟩,⟨none,[(21,some 0)]⟩,⟨none,[(22,some 1)]⟩,⟨none,[(23,some 2)]⟩,⟨none,[(3,none)]⟩,⟨none,[(25,some 4)]⟩,⟨none,[(24,some 3),(26,some 5)]⟩,⟨none,[(27,some 6)]⟩,⟨some (28,true),[(6,none),(28,some 7)]⟩,⟨some (28,true),[(29,some 8),(28,some 7)]⟩,⟨some (28,true),[(30,some 9),(28,some 7)]⟩,⟨some (28,true),[(31,some 10),(28,some 7)]⟩,⟨some (28,true),[(3,none),(28,some 7)]⟩,⟨some (28,true),[(33,some 12),(28,some 7)]⟩,⟨some (28,true),[(32,some 11),(34,some 13),(28,some 7)]⟩,⟨none,[(28,some 7),(35,some 14)]⟩] kj kj fun F hF=>Qak (.pointer (some ⟨ge,o,none⟩)) kj kj (fun _=>kj) <| Qak (.pointer (some ⟨ge,o,none⟩)) kj kj (fun _=>kj) <| Qak (.pointer (some ⟨ge,(o+33),none⟩)) kj kj (fun _=>kj) ?_
   refine Qa7 (.int .i64 e.num) kj kj (fun W hR=>(Qad 3 _ ge (o+33) 55 _ (.int .i64 e.num) _ (Qaa (Qaa (r2_2.trans (congrArg (fun z=>some (Obj.cells z 55)) hcu)) (Qaj _)) hR) rfl kj (Qam [P,#[.pointer (some ⟨e.gc,0,none⟩)],ints .u8 (grp)] [#[.int .i64 e.num]] [#[.int .i64 e.leaf],tl] (o+33) (by rw [Qac,Qac,Qac]; simp only [qS,cat,(izT hgl),hP]; rfl) 0 _ rfl) kj)) ?_
   refine Qak (.pointer (some ⟨g4,32,none⟩)) kj kj (fun _=>kj) ?_
   have r4_2:=(Qaa r4_1 e2)
   refine Qa7 (.int .i64 ((ep:Nat):Int)) kj kj (fun W hR=>(Qad 3 _ g4 32 35 _ (.int .i64 ((ep:Nat):Int)) _ (Qaa (Qaa r4_2 (Qaj _)) hR) rfl kj (Qam [ints .u8 (grp)] [#[.int .i64 ((ep:Nat):Int)]] [#[.int .i64 0],#[.int .i64 ((nu:Nat):Int)],#[.slice a_s n_s c_s]] 32 (izT hgl) 0 _ rfl) kj)) <| Qak (.bool false) kj kj (fun W=>(Qah (u:=.bool ((e.num==((ep:Nat):Int)))) kj (congrArg zax (decide_eq_false (by omega))))) <| Qak (.bool false) kj kj (fun _=>kj) <| Qbq kj kj <| Qbq kj kj <| Qbq kj kj <| Qbq kj kj <| Qbq kj kj <| Qbq kj kj <| Qbq kj kj ?_
   refine Qak (.bool false) kj kj (fun _=>kj) <| QaQ (hF _ kj fun W3 e3=>?_)
   simp only [ups,up,Kn.val,zaB,zaC,zaD,zaE,za0,zaF]
   clear hF
   have x3:=zbu xx1 e3
   refine sgN hK14 <| cond_false kj <| wp_skip <| hK10 _ _ <| Qae <| Qab (.int .i64 (((i+1:Nat):Int))) 38 rfl kj (Qah (u:=.int .i64 (zaS.wrap (((i:Nat):Int)+1))) kj (congrArg (zaT .i64) (Ql0 i (by omega)))) <| sg 1 kj <| Qal ?_
   repeat (first | with_reducible refine goX1 ?_ | with_reducible refine goX2 ?_ | with_reducible refine goX3 ?_)
   exact Qa5 (i+1) ⟨kj,kj,kj,kj,trivial⟩ ⟨(by omega),(zbs e2 e3),x3⟩ (by omega)
  ·skip
   obtain rfl:i=j:=by omega
   obtain ⟨h9,-⟩ | ⟨e,o9,he,hnm,ho9,rfl⟩:=hr
   ·omega
   have r2_1:=(Qaa hge e1)
   have r2_2:=(Qaa r2_1 e2)
   obtain ⟨P,tl,hP,hcu⟩:=hpt i e he
   rw [hgr e (zbn he)] at hcu
   obtain ⟨o,ho⟩:∃ o,o=35*i:=⟨_,rfl⟩
   rw [←ho] at hP
   obtain rfl:o=o9:=by omega
   refine sgA kj <| hK11 _ _ <| sgC fun K16 hK16=>sg 3 kj ?_
   have r1_2:=(Qaa r1_1 e2)
   refine Qab (.slice (some ⟨ge,0,none⟩) n ce) 18 rfl kj (Qad 47 _ gb 0 49 _ (.slice (some ⟨ge,0,none⟩) n ce) _ r1_2 rfl kj kj kj) <| sg 1 kj <| Qab (.pointer (some ⟨ge,o,none⟩)) 20 rfl kj (Qb4 47 _ _ .i64 i ge 0 n ce 55 35 rfl kj kj kj kj hlt13 o (by omega)) <| sg 1 kj <| sgN hK16 <| wp_seq_k fun K17 hK17=>QaL 16 [⟨none,[(6,none)]⟩,⟨none,[(21,some 0)]⟩,⟨none,[(22,some 1)]⟩,⟨none,[(23,some 2)]⟩,⟨none,[(3,none)]⟩,⟨none,[(25,some 4)]⟩,⟨none,[(24,some 3),(26,some 5)]⟩,⟨none,[(27,some 6)]⟩,⟨some (28,true),[(6,none),(28,some 7)]⟩,⟨some (28,true),[(29,some 8),(28,some 7)]⟩,⟨some (28,true),[(30,some 9),(28,some 7)]⟩,⟨some (28,true),[(31,some 10),(28,some 7)]⟩,⟨some (28,true),[(3,none),(28,some 7)]⟩,⟨some (28,true),[(33,some 12),(28,some 7)]⟩,⟨some (28,true),[(32,some 11),(34,some 13),(28,some 7)]⟩,⟨none,[(28,some 7),(35,some 14)]⟩] kj kj fun F hF=>Qak (.pointer (some ⟨ge,o,none⟩)) kj kj (fun _=>kj) <| Qak (.pointer (some ⟨ge,o,none⟩)) kj kj (fun _=>kj) <| Qak (.pointer (some ⟨ge,(o+33),none⟩)) kj kj (fun _=>kj) ?_
   refine Qa7 (.int .i64 e.num) kj kj (fun W hR=>(Qad 3 _ ge (o+33) 55 _ (.int .i64 e.num) _ (Qaa (Qaa (r2_2.trans (congrArg (fun z=>some (Obj.cells z 55)) hcu)) (Qaj _)) hR) rfl kj (Qam [P,#[.pointer (some ⟨e.gc,0,none⟩)],ints .u8 (grp)] [#[.int .i64 e.num]] [#[.int .i64 e.leaf],tl] (o+33) (by rw [Qac,Qac,Qac]; simp only [qS,cat,(izT hgl),hP]; rfl) 0 _ rfl) kj)) ?_
   refine Qak (.pointer (some ⟨g4,32,none⟩)) kj kj (fun _=>kj) ?_
   have r4_2:=(Qaa r4_1 e2)
   refine Qa7 (.int .i64 ((ep:Nat):Int)) kj kj (fun W hR=>(Qad 3 _ g4 32 35 _ (.int .i64 ((ep:Nat):Int)) _ (Qaa (Qaa r4_2 (Qaj _)) hR) rfl kj (Qam [ints .u8 (grp)] [#[.int .i64 ((ep:Nat):Int)]] [#[.int .i64 0],#[.int .i64 ((nu:Nat):Int)],#[.slice a_s n_s c_s]] 32 (izT hgl) 0 _ rfl) kj)) <| Qak (.bool true) kj kj (fun W=>(Qah (u:=.bool ((e.num==((ep:Nat):Int)))) kj (congrArg zax (decide_eq_true (by omega))))) <| Qak (.bool true) kj kj (fun _=>kj) <| Qak (.pointer (some ⟨ge,o,none⟩)) kj kj (fun _=>kj) <| Qak (.pointer (some ⟨ge,o,none⟩)) kj kj (fun _=>kj) <| Qak (.pointer (some ⟨ge,(o+1),none⟩)) kj kj (fun _=>kj) <| Qa7 (.agg (ints .u8 (grp))) kj kj (fun W hR=>(Qa0 29 _ ge (o+1) 55 _ _ _ (Qaa (Qaa (r2_2.trans (congrArg (fun z=>some (Obj.cells z 55)) hcu)) (Qaj _)) hR) rfl kj (Qam [P,#[.pointer (some ⟨e.gc,0,none⟩)]] [ints .u8 (grp)] [#[.int .i64 e.num],#[.int .i64 e.leaf],tl] (o+1) (by rw [Qac,Qac]; simp only [qS,cat,hP]; rfl)) kj (isz (n:=32) kj (izT hgl)))) ?_
   refine Qak (.pointer (some ⟨g4,0,none⟩)) kj kj (fun _=>kj) <| Qa7 (.agg (ints .u8 (grp))) kj kj (fun W hR=>(Qa0 29 _ g4 0 35 _ _ _ (Qaa (Qaa r4_2 (Qaj _)) hR) rfl kj (Qam [] [ints .u8 (grp)] [#[.int .i64 ((ep:Nat):Int)],#[.int .i64 0],#[.int .i64 ((nu:Nat):Int)],#[.slice a_s n_s c_s]] 0 kj) kj (isz (n:=32) kj (izT hgl)))) <| Qak (.bool true) kj kj (fun W=>(QeX 29 _ _ _ _ _ (.bool true) rfl kj kj kj (QgP 29 (e:=5) (k:=.u8) (grp) (grp) (decide_eq_true rfl) hgl hgl kj kj kj _))) <| Qak (.bool true) kj kj (fun _=>kj) <| QaQ (hF _ kj fun W3 e3=>?_)
   simp only [ups,up,Kn.val,zaB,zaC,zaD,zaE,za0,zaF]
   clear hF
   have x3:=zbu xx1 e3
   refine sgN hK17 <| cond_true kj <| sgB kj <| wp_ret ?_
   exact (show bodyPost _ _ _ .ret _ _ from ret1 (.pointer (some ⟨ge,o,none⟩)) rfl (Qaz kj) ⟨rfl,x3⟩)
 ·skip
  have heq13:i=n:=by have:=of_decide_eq_false c9; omega
  obtain ⟨h9,rfl⟩ | ⟨e,o9,he,hnm,ho9,rfl⟩:=hr
  rotate_left
  ·have:=(za2.1 he).1
   omega
  refine wp_exit <| hK5 _ _ <| sgB kj <| wp_ret ?_
  exact (show bodyPost _ _ _ .ret _ _ from ret1 (.pointer none) rfl (Qaz kj) ⟨rfl,xx1⟩)
end Pk
end
section
namespace Pk
open Go Go.RowKit
open Rely Auto Own Sha
open Cha
open Ae hiding run_storeQ
open Cn hiding nb_new run_extractT
open Wk
theorem QiB {P : Program} {ρ:Operand→Value} {o:Oper} {w:World} (t:TypeId) (x y z u:Operand) (l h m g len c:Nat) (e:TypeId) (ho:o.op=.slice t x (some y) (some z) (some u)) (hx:ρ x=.slice (some ⟨g,0,none⟩) len c) (hu:P.underlying t=some (.slice e)) (hs:(P.info? e).map (·.size)=some 35) (hy:ρ y=.int .i64 (l:Int)) (hz:ρ z=.int .i64 (h:Int)) (hm:ρ u=.int .i64 (m:Int)) (h1:l≤h) (h2:h≤m) (h3:m≤c) (h4:l<m) :
    (execOp ρ o).run P w=.ok (.value (.slice (some ⟨g,l*35,none⟩) (h-l) (m-l))) w:=by
  cases hq:P.info? e with
  | none=>simp [hq] at hs
  | some i =>
    have hs':i.size=35:=by simpa [hq] using hs
    have hne:¬ m=l:=by omega
    unfold execOp
    simp [ho,hx,hy,hz,hm,Instr.sliceAt,Instr.slice,Instr.sliceBounds,run_sliceBound,run_underlying hu,sizeOf,typeInfo,hq,hs',Addr.add,hne,h1,h2,h3]
    exact fun h=>h.symm
theorem QiH {P : Program} {ρ:Operand→Value} {o:Oper} {w:World} (t:TypeId) (x z:Operand) (g c:Nat) (e:TypeId) (ho:o.op=.slice t x none (some z) none) (hx:ρ x=.slice (some ⟨g,0,none⟩) 5 c) (hu:P.underlying t=some (.slice e)) (hs:(P.info? e).map (·.size)=some 35) (hz:ρ z=.int .i64 0) (hc:5≤c) :
    (execOp ρ o).run P w=.ok (.value (.slice (some ⟨g,0,none⟩) 0 c)) w:=by
  cases hq:P.info? e with
  | none=>simp [hq] at hs
  | some i =>
    have hs':i.size=35:=by simpa [hq] using hs
    unfold execOp
    simp [ho,hx,hz,Instr.sliceAt,Instr.slice,Instr.sliceBounds,run_sliceBound,run_underlying hu,sizeOf,typeInfo,hq,hs',Addr.add]
theorem QiG {P : Program} {ρ:Operand→Value} {o:Oper} {w:World} (t:TypeId) (x z:Operand) (g c:Nat) (e:TypeId) (ho:o.op=.slice t x (some z) none none) (hx:ρ x=.slice (some ⟨g,0,none⟩) 5 c) (hu:P.underlying t=some (.slice e)) (hs:(P.info? e).map (·.size)=some 35) (hz:ρ z=.int .i64 1) (hc:5≤c) :
    (execOp ρ o).run P w=.ok (.value (.slice (some ⟨g,35,none⟩) 4 (c-1))) w:=by
  cases hq:P.info? e with
  | none=>simp [hq] at hs
  | some i =>
    have hs':i.size=35:=by simpa [hq] using hs
    have hne:¬ c=1:=by omega
    unfold execOp
    simp [ho,hx,hz,Instr.sliceAt,Instr.slice,Instr.sliceBounds,run_sliceBound,run_underlying hu,sizeOf,typeInfo,hq,hs',Addr.add,hne,hc]
theorem QiF {P : Program} {ρ:Operand→Value} {o:Oper} {w:World} (t:TypeId) (x y z:Operand) (l h g len c:Nat) (e:TypeId) (ho:o.op=.slice t x (some y) (some z) none) (hx:ρ x=.slice (some ⟨g,0,none⟩) len c) (hu:P.underlying t=some (.slice e)) (hs:(P.info? e).map (·.size)=some 35) (hy:ρ y=.int .i64 (l:Int)) (hz:ρ z=.int .i64 (h:Int)) (h1:l≤h) (h2:h≤c) (h4:l<c) :
    (execOp ρ o).run P w=.ok (.value (.slice (some ⟨g,l*35,none⟩) (h-l) (c-l))) w:=by
  cases hq:P.info? e with
  | none=>simp [hq] at hs
  | some i =>
    have hs':i.size=35:=by simpa [hq] using hs
    have hne:¬ c=l:=by omega
    unfold execOp
    simp [ho,hx,hy,hz,Instr.sliceAt,Instr.slice,Instr.sliceBounds,run_sliceBound,run_underlying hu,sizeOf,typeInfo,hq,hs',Addr.add,hne,h1,h2]
    exact fun h=>h.symm
theorem QkX {P : Program} {ρ:Operand→Value} {o:Oper} {W:World} (s x:Operand) (t e:TypeId) (ho:o.op=.call { callee:=.builtin .append,args:=#[s,x],argTypes:=#[t,t] }) (ht:P.underlying t=some (.slice e))
    (hi:(P.info? e).map (·.size)=some 35) (g c:Nat) (cur:Array Value) (hs:ρ s=.slice (some ⟨g,0,none⟩) 0 c) (hx:ρ x=.slice (some ⟨g,35,none⟩) 4 (c-1)) (hg:W.heap[g]? = some (.cells cur e (0,0))) (news:List Value) (hl:news.length=140)
    (hn:∀ j u,news[j]? = some u→cur[35+j]? = some u) (h1:∀ u∈news,u.oneCell'=true) (hc:5≤c) (hsz:cur.size=c*35) :
    (execOp ρ o).run P W=.ok (.value (.slice (some ⟨g,0,none⟩) 4 c)) (W.setRow g (news++cur.toList.drop 140).toArray):=by
  cases hq:P.info? e with
  | none=>simp [hq] at hi
  | some i =>
    have hs':i.size=35:=by simpa [hq] using hi
    have h:=run_append_room (P:=P) W t o.type e i ht hq g 0 c cur hg ⟨g,35,none⟩ 4 (c-1) news (by rw [hs']; exact hl) (fun j u hu=>by
      rw [WideShapes.add_plain]
      unfold World.cell?
      simp only [hg]
      exact hn j u hu) h1 (by omega) (by omega)
    rw [hl] at h
    unfold execOp
    simp only [ho,resolve,invoke,builtin,zad,zae,zaf,zag,zah,zai,hs,hx,h]
    simp
theorem QkY {P : Program} {ρ:Operand→Value} {o:Oper} {W:World} (x:Operand) (t e:TypeId) (ho:o.op=.call { callee:=.builtin .clear,args:=#[x],argTypes:=#[t] }) (ht:P.underlying t=some (.slice e)) (z:Value) (hv:∀ w,(zeroValue e).run P w=.ok z w) (hz:z.cells.size=35) (h1:∀ u∈z.cells.toList,u.oneCell'=true)
    (g c:Nat) (cur:Array Value) (hx:ρ x=.slice (some ⟨g,140,none⟩) 1 c) (hg:W.heap[g]? = some (.cells cur e (0,0))) (hsz:175≤cur.size) :
    (execOp ρ o).run P W=.ok (.value (.tuple #[])) (W.setRow g (cur.toList.take 140++z.cells.toList++cur.toList.drop 175).toArray):=by
  have hzc:Builtin.zeroCells z.cells 1=z.cells:=by
    apply Array.ext
    · simp [Builtin.zeroCells]
    · intro i h1 h2
      simp [Builtin.zeroCells,Nat.mod_eq_of_lt h2,getElem!_pos z.cells i h2]
  have hst:=run_storeCells_at P g 140 e z.cells.toList 0 cur W hg (by simp [hz]; omega) h1
  simp only [za8,hz,zam] at hst
  unfold execOp
  simp [ho,resolve,invoke,builtin,Builtin.clear_,hx,run_underlying ht,hv,hzc,hst]
theorem QmY (cur : Array Value) (c:Nat) (f0 news zs:List Value) (hf:f0.length=35) (hl:news.length=140) (hz:zs.length=35) (hc:5≤c) (hsz:cur.size=c*35) (ht:cur.toList.take 175=f0++news) :
    (∀ (j:Nat) (u:Value),news[j]? = some u→cur[35+j]? = some u)∧(news++cur.toList.drop 140).toArray.size=c*35∧((news++cur.toList.drop 140).toArray.toList.take 140++zs++(news++cur.toList.drop 140).toArray.toList.drop 175).toArray.size=c*35∧((news++cur.toList.drop 140).toArray.toList.take 140++zs++(news++cur.toList.drop 140).toArray.toList.drop 175).toArray.toList.take 140=news:=by
  have h0:(news++cur.toList.drop 140).take 140=news:=by rw [←hl,List.take_left]
  refine ⟨fun j u hu=>?_,?_,?_,?_⟩
  · have hj:j<140:=by have:=(za2.1 hu).1; omega
    have h1:(cur.toList.take 175)[35+j]? = some u:=by
      rw [ht,zat (by omega),hf,zaq]; exact hu
    rw [zaA,if_pos (by omega)] at h1
    simpa using h1
  · simp; omega
  · simp only [h0,zaW,zac,zbo,za8,hl,hz]
    omega
  · simp only [h0]
    rw [zar,zbl (by omega),List.take_of_length_le (by omega)]
def zE_ : Value:=.agg (cat [#[.pointer none],ints .u8 (zao 32 0),#[.int .i64 0],#[.int .i64 0]])
theorem Qnu : ∀ u∈zE_.cells.toList,u.oneCell'=true:=fun u hu=>zbd.1 (show (zE_.cells.toList.all fun u=>u.oneCell')=true by kernel_rfl) u hu
theorem QlA (base : Nat) (e0:Ep) (es:List Ep) (hl:es.length=4) (v:Value) (w:World) (h:OwE base (e0::es) v w):Calls Tryd.prog 18 #[v,.int .i64 0,.int .i64 1] w (fun x W=>∃ v',x=.returned v'∧OwE base es v' W∧w.grownBy W v.ownBlock∧v'.ownBlock=v.ownBlock):=by
  have hl5:(e0::es).length=5:=by rw [zbj,hl]
  rcases h.row.2 with ⟨-,e2⟩ | ⟨ge,c,cur,hv,q2,q3,q4,q5,q6,q7⟩
  · omega
  rw [hl5] at hv q4 q7
  subst hv
  have hle:∀ e∈e0::es,((cat (epP e)).toList).length=35:=fun e he=>by rw [za8]; exact Qdi e (h.len e he)
  obtain ⟨ns,hns⟩:∃ z,z=es.flatMap fun e=>(cat (epP e)).toList:=⟨_,rfl⟩
  have hln:ns.length=140:=by rw [hns,Qga _ 35 es (fun e he=>hle e (zbf _ he)),hl]
  have hone:∀ u∈ns,u.oneCell'=true:=fun u hu=>by
    rw [hns] at hu
    obtain ⟨e,he,hu⟩:=List.mem_flatMap.1 hu
    exact Qk0 e u hu
  have hD:=QmY cur c (cat (epP e0)).toList ns zE_.cells.toList (hle e0 zbg) hln rfl q4 q6 (by rw [hns]; exact q7)
  refine enter 33 [(0,.slice (some ⟨ge,0,none⟩) 5 c),(1,.int .i64 0),(2,.int .i64 1)] Tryd.func18 rfl rfl kj rfl <| sgB kj <| sgC fun K3 hK3=>sg 5 kj <| Qab (.slice (some ⟨ge,0,none⟩) 1 5) 13 rfl kj (QiB 47 _ _ _ _ 0 1 5 ge 5 c 55 rfl kj kj kj kj kj kj (by decide) (by decide) q4 (by decide)) <| sgN hK3 <| wp_seq_k fun K4 hK4=>sgB kj <| cond_false kj <| wp_skip ?_
  refine hK4 _ _ <| sgB kj <| wp_seq_k fun K7 hK7=>QbO (fun W=>Qaf [ge] w W) kj fun Ws eWs=>⟨zb2 (zb0 _ _) eWs,?_⟩
  refine QaA 0 (.slice (some ⟨ge,0,none⟩) 5 c) 20 rfl rfl kj kj (fun _ _ _ h=>h) (fun W hR=>by kernel_rfl) <| QaA 1 (.int .i64 0) 21 rfl rfl kj kj (fun _ _ _ h=>h) (fun W hR=>by kernel_rfl) <| QaA 2 (.slice (some ⟨ge,0,none⟩) 0 c) 22 rfl rfl kj kj (fun _ _ _ h=>h) (fun W hR=>(QiH 47 _ _ ge c 55 rfl kj kj kj kj q4)) <| QaA 3 (.slice (some ⟨ge,0,none⟩) 5 c) 23 rfl rfl kj kj (fun _ _ _ h=>h) (fun W hR=>by kernel_rfl) <| QaA 4 (.int .i64 1) 24 rfl rfl kj kj (fun _ _ _ h=>h) (fun W hR=>by kernel_rfl) <| QaA 5 (.slice (some ⟨ge,35,none⟩) 4 (c-1)) 25 rfl rfl kj kj (fun _ _ _ h=>h) (fun W hR=>(QiG 47 _ _ ge c 55 rfl kj kj kj kj q4)) <| QcP 6 kj (Qnx rfl (fun v W'=>v=.slice (some ⟨ge,0,none⟩) 4 c∧Puts Ws ge W'∧W'.heap[ge]? = some (.cells (ns++cur.toList.drop 140).toArray 55)) 26 rfl kj ⟨_,_,QkX _ _ 47 55 rfl kj kj ge c cur rfl rfl (Qaa q3 eWs) ns hln hD.1 hone q4 q6,rfl,QaV _ _ _,setRow_heap _ _ _ _ _ _ (Qaa q3 eWs)⟩ (fun v W' h=>Qaf.puts (zb2 (zb0 _ _) eWs) h.2.1 (.inl zbg)) fun v W1 h1=>?_)
  obtain ⟨rfl,p1,r1⟩:=h1
  have xb1:=zbw (ExtB.ext (zbv ge w) eWs) p1
  refine QaA 7 (.slice (some ⟨ge,0,none⟩) 4 c) 0 rfl rfl kj kj (fun _ _ _ h=>h) (fun W hR=>by kernel_rfl) <| QeT kj <| hK7 _ _ <| sgC fun K8 hK8=>sg 4 kj <| Qab (.slice (some ⟨ge,140,none⟩) 1 (c-4)) 31 rfl kj (QiF 47 _ _ _ 4 5 ge 4 c 55 rfl kj kj kj kj kj (by decide) q4 (by omega)) <| Qef _ _ rfl kj (QkY _ 47 55 rfl kj zE_ (fun _=>kj) rfl Qnu ge _ _ rfl r1 (by rw [hD.2.1]; omega)) ?_
  have p2:=QaV W1 ge ((ns++cur.toList.drop 140).toArray.toList.take 140++zE_.cells.toList++(ns++cur.toList.drop 140).toArray.toList.drop 175).toArray
  have r2:=setRow_heap W1 ge _ ((ns++cur.toList.drop 140).toArray.toList.take 140++zE_.cells.toList++(ns++cur.toList.drop 140).toArray.toList.drop 175).toArray _ _ r1
  generalize W1.setRow ge ((ns++cur.toList.drop 140).toArray.toList.take 140++zE_.cells.toList++(ns++cur.toList.drop 140).toArray.toList.drop 175).toArray=W2 at p2 r2 ⊢
  have xb2:=zbw xb1 p2
  refine sgN hK8 <| sgB kj <| wp_ret ?_
  exact (show bodyPost _ _ _ .ret _ _ from ret1 (.slice (some ⟨ge,0,none⟩) 4 c) rfl (Qaz kj) ⟨_,rfl,⟨⟨(by rw [←hns,hln,hl]),.inr ⟨ge,c,_,(by rw [hl]),q2,r2,(by omega),q5,hD.2.2.1,(by rw [←hns,hl]; exact hD.2.2.2)⟩⟩,fun e he=>h.len e (zbf _ he)⟩,⟨xb2.1,xb2.2.1,xb2.2.2.1,xb2.2.2.2.1,fun k hk hn=>xb2.2.2.2.2 k hk fun e=>hn (by rw [e]; rfl)⟩,rfl⟩)
end Pk
end
section
namespace Wk
open Go Go.RowKit
open Rely Auto Own Sha
variable {P : Program} {ops : Array Oper} {Q : Exit → Act → World → Prop}
def waits (ops : Array Oper) (m i:Nat):Bool:=match ops[m]? with
  | some o=>o.after.any fun e=>zaI .any e&&e.on==i
  | none=>false
def allM (P : Program) (ops:Array Oper) (Q:Exit→Act→World→Prop) (Rd:World→Prop) (m:Nat):Nat→Array Bool→Act→World→Prop
  | 0,listed,a,w=>zaG .any ops listed=[]∧Q .normal a w
  | fuel+1,listed,a,w=>(zaG .any ops listed=[]→Q .normal a w)∧∀ i∈zaG .any ops listed,wpOp P ops Q i (fun a' w'=>(i≠m→Rd w')∧allM P ops Q Rd m fuel (listed.setIfInBounds i true) a' w') a w
theorem allM_any {Rd : World→Prop} {m:Nat}:∀ (fuel:Nat) (listed:Array Bool) (a:Act) (w:World),allM P ops Q Rd m fuel listed a w→wpAny P .any ops Q fuel listed a w
  | 0,_,_,_,h=>h
  | _+1,_,_,_,h=>⟨h.1,fun i hi=>wpOp_mono (fun a w h=>allM_any _ _ a w h.2) (h.2 i hi)⟩
theorem allM_first {Rd : World→Prop} {m i:Nat} {oi:Oper} {v:Value} (hi:ops[i]? = some oi) (hsel:∀ (j:Nat) (o:Oper) cs b,ops[j]? = some o→o.op≠.select cs b) (hm:waits ops m i=true) (hQ:∀ c a w,Q (.panic c) (a.put oi.dst v) w→Q (.panic c) a w) :
    ∀ (fuel:Nat) (listed:Array Bool) (a:Act) (w:World),Rd w →
      (∀ j oj,ops[j]? = some oj→j≠i→listed.getD j true=false→(∀ e∈oj.after,zaI .any e=true→e.on≠i)→oi.apart ops oj=true) →
      i∈zaG .any ops listed→Qcr P ops Rd oi v a→allM P ops Q Rd m fuel (listed.setIfInBounds i true) (a.put oi.dst v) w→allM P ops Q Rd m (fuel+1) listed a w:=by
  intro fuel
  induction fuel with
  | zero =>
    intro listed a w hw _ hr hy H
    refine ⟨fun h=>(by rw [h] at hr; cases hr),fun j hj=>?_⟩
    by_cases hji:j=i
    · subst hji; exact hy.wpOp hi hw ⟨fun _=>hw,H⟩
    · have:=ready_mono hj hji
      rw [H.1] at this
      cases this
  | succ fuel ih =>
    intro listed a w hw hfree hr hy H
    refine ⟨fun h=>(by rw [h] at hr; cases hr),fun j hj=>?_⟩
    by_cases hji:j=i
    · subst hji; exact hy.wpOp hi hw ⟨fun _=>hw,H⟩
    · have h1:=H.2 j (ready_mono hj hji)
      obtain ⟨hjun,oj,hoj,hall⟩:=mem_ready.1 hj
      have hnot:∀ e∈oj.after,zaI .any e=true→e.on≠i:=fun e he hb heq=>by
        have h1:=hall e he hb
        have h0:=(mem_ready.1 hr).1
        rw [heq] at h1
        rcases zas i listed.size with h' | h'
        · simp [h'] at h0 h1; rw [h0] at h1; cases h1
        · simp [zaJ h'] at h1
      have hjm:j≠m:=fun e=>by
        subst e
        unfold waits at hm
        rw [hoj] at hm
        obtain ⟨x,hx,h5⟩:=Array.any_eq_true'.1 hm
        rw [Bool.and_eq_true,beq_iff_eq] at h5
        exact hnot x hx h5.1 h5.2
      have h2:=QjK hoj (hfree j oj hoj hji hjun hnot) (fun cs b=>hsel i oi cs b hi) (fun cs b=>hsel j oj cs b hoj) hQ hy h1
      have hfree':∀ k ok,ops[k]? = some ok→k≠i→(listed.setIfInBounds j true).getD k true=false→(∀ e∈ok.after,zaI .any e=true→e.on≠i)→oi.apart ops ok=true:=fun k ok hk hki hun hno=>by
        refine hfree k ok hk hki ?_ hno
        by_cases hjk:j=k
        · subst hjk; exact hjun
        · rw [getD_set_ne true hjk] at hun; exact hun
      refine wpOp_mono (fun a' w' h3=>⟨fun _=>h3.2.1 hjm,ih (listed.setIfInBounds j true) a' w' (h3.2.1 hjm) hfree' (ready_mono hr (Ne.symm hji)) h3.1 ?_⟩) h2
      rw [zaK _ _ hji]
      exact h3.2.2
structure WM (P : Program) (ops : Array Oper) (Q : Exit → Act → World → Prop) (Rd : World → Prop) (m fuel : Nat) (listed : Array Bool) (a : Act) (w : World) : Prop where
  out:Rd w→allM P ops Q Rd m fuel listed a w
structure WN (P : Program) (ops : Array Oper) (Q : Exit → Act → World → Prop) (Rd : World → Prop) (m k fuel : Nat) (listed : Array Bool) (a : Act) (w : World) : Prop where
  out:wpOp P ops Q k (fun a' w'=>(k≠m→Rd w')∧allM P ops Q Rd m fuel (listed.setIfInBounds k true) a' w') a w
variable {o : Oper} {N m : Nat} {L : Env} {w V : World} {ds : List Deferred} {fuel : Nat} {listed : Array Bool} {k : Nat} {a : Act} {Rd : World → Prop}
theorem region_walkM {id : Nat} {l:List Oper} (Rd:World→Prop) (m:Nat) (hm:P.follows .mixedOrders=true) (h:∀ W,Ext w W→Rd W∧WM P l.toArray Q Rd m l.length (zaL l.length false) (Qaw ds N L) W):(zaM id l.toArray true).wp P Q (Qaw ds N L) w:=by
  refine wp_region_any hm ?_
  obtain ⟨h1,h2⟩:=h w.drew (Qaj w)
  have:=allM_any _ _ _ _ (h2.out h1)
  simpa using this
theorem wm_val (k : Nat) (v:Value) (d:Nat) (ho:ops[k]? = some o) (hd:o.dst=some d) (hg:Qbm ops o N L=some true) (hc:(zaN ops&&zaO .any ops listed k&&(zaG .any ops listed).contains k)=true)
    (hwm:waits ops m k=true) (hQ:∀ c a w,Q (.panic c) (a.put o.dst v) w→Q (.panic c) a w) (h:∀ W,Rd W→(execOp (Rely.look (envN N L)) o).run P W=.ok (.value v) W) (kk:WM P ops Q Rd m fuel (listed.setIfInBounds k true) (Qaw ds N ((d,v)::L)) w):WM P ops Q Rd m (fuel+1) listed (Qaw ds N L) w:=by
  simp only [Bool.and_eq_true] at hc
  refine ⟨fun hw=>allM_first ho (zaP hc.1.1) hwm hQ fuel listed _ w hw (zaQ ho hc.1.2) (by simpa using hc.2) (.inl ⟨Qbh hg,fun W hW=>?_⟩) ?_⟩
  · rw [QaO]; exact h W hW
  · rw [hd,QaN]; exact kk.out hw
theorem Qgi (k : Nat) (hr:zaG .any ops listed=[k]) (h:WN P ops Q Rd m k fuel listed a w):WM P ops Q Rd m (fuel+1) listed a w :=
  ⟨fun _=>⟨fun h0=>(by rw [hr] at h0; cases h0),fun i hi=>by
    rw [hr] at hi; obtain rfl:i=k:=by simpa using hi
    exact h.out⟩⟩
theorem Qmq (ho : ops[k]? = some o) (R:Value→World→Prop) (f:FuncId) (args:Array Value) (d:Nat) (hd:o.dst=some d) (hg:Qbm ops o N L=some true)
    (h:(execOp (Rely.look (envN N L)) o).run P w=.ok (.enter f args) w) (hc:Calls P f args w fun e w'=>∃ v,e=.returned v∧R v w') (hR:∀ v W,R v W→Rd W) (kk:∀ (v:Value) (W:World),R v W→WM P ops Q Rd m fuel (listed.setIfInBounds k true) (Qaw ds N ((d,v)::L)) W):WN P ops Q Rd m k fuel listed (Qaw ds N L) w:=by
  refine ⟨?_⟩
  unfold wpOp
  rw [ho]
  simp only [Qbh hg,if_true]
  refine .inl ?_
  unfold Oper.wp
  rw [QaO,h]
  refine hc.mono ?_
  rintro e w' ⟨v,rfl,hw⟩
  show _∧allM _ _ _ _ _ _ _ _ _
  rw [hd,QaN]
  exact ⟨fun _=>hR v w' hw,(kk v w' hw).out (hR v w' hw)⟩
theorem Qjl (ho : ops[k]? = some o) (R:Value→World→Prop) (d:Nat) (hd:o.dst=some d) (hg:Qbm ops o N L=some true) (h:∃ v W,(execOp (Rely.look (envN N L)) o).run P w=.ok (.value v) W∧R v W) (hR:∀ v W,R v W→Rd W)
    (kk:∀ (v:Value) (W:World),R v W→WM P ops Q Rd m fuel (listed.setIfInBounds k true) (Qaw ds N ((d,v)::L)) W):WN P ops Q Rd m k fuel listed (Qaw ds N L) w:=by
  obtain ⟨v,W,h1,h2⟩:=h
  refine ⟨?_⟩
  unfold wpOp
  rw [ho]
  simp only [Qbh hg,if_true]
  refine .inl ?_
  unfold Oper.wp
  rw [QaO,h1]
  show _∧allM _ _ _ _ _ _ _ _ _
  rw [hd,QaN]
  exact ⟨fun _=>hR v W h2,(kk v W h2).out (hR v W h2)⟩
theorem QkI (g : Nat) (old cs:Array Value) (t:TypeId) (hgr:w.heap[g]? = some (.cells old t)) (ho:ops[k]? = some o) (hd:o.dst=none) (hg:Qbm ops o N L=some true)
    (h:(execOp (Rely.look (envN N L)) o).run P w=.ok .skip (w.setRow g cs)) (hr:zaG .any ops (listed.setIfInBounds k true)=[]) (kk:∀ W,Puts w g W→W.heap[g]? = some (.cells cs t)→Q .normal (Qaw ds N L) W):WN P ops Q Rd k k fuel listed (Qaw ds N L) w:=by
  refine ⟨?_⟩
  unfold wpOp
  rw [ho]
  simp only [Qbh hg,if_true]
  refine .inl ?_
  unfold Oper.wp
  rw [QaO,h]
  show _∧allM _ _ _ _ _ _ _ _ _
  rw [hd]
  refine ⟨fun h=>absurd rfl h,?_⟩
  have h1:=kk _ (QaV _ _ _) (setRow_heap _ _ _ _ _ _ hgr)
  cases fuel with
  | zero=>exact ⟨hr,h1⟩
  | succ n=>exact ⟨fun _=>h1,by rw [hr]; simp⟩
end Wk
end
section
namespace Pk
open Go Go.RowKit
open Rely Auto Own Sha
open Cha
open Ae hiding run_storeQ
open Cn hiding nb_new run_extractT
open Wk
theorem OwE.keep {base : Nat} {es:List Ep} {v:Value} {W W':World} (h:OwE base es v W) (hk:∀ k,v.ownBlock=some k→W'.heap[k]? = W.heap[k]?):OwE base es v W' :=
  ⟨⟨h.row.1,h.row.2.imp id fun ⟨g,c,cur,q1,q2,q3,q4⟩=>⟨g,c,cur,q1,q2,(hk g (by rw [q1]; rfl)).trans q3,q4⟩⟩,h.len⟩
def Qbv (W W':World):Prop:=∀ (i:Nat) (ob:Obj),W.heap[i]? = some ob→(∀ c,ob≠.cells c 55)→(∀ c,ob≠.cells c 49)→W'.heap[i]? = some ob
theorem Qbv.chst {cg cm pl:Nat} {s0 ts:List Int} {ms:List (Int×List Int)} {W W':World} (k:Qbv W W') (h:ChSt cg cm s0 ts pl ms W):ChSt cg cm s0 ts pl ms W':=by
  obtain ⟨B,-,h2⟩:=h.row
  obtain ⟨es,cl,h3,-⟩:=h.mp
  exact h.keep ((k _ _ h2 (fun c e=>by cases e) (fun c e=>by cases e)).trans h2.symm) ((k _ _ h3 (fun c e=>by cases e) (fun c e=>by cases e)).trans h3.symm)
theorem Qbv.trans {a b c:World} (h:Qbv a b) (k:Qbv b c):Qbv a c:=fun i ob h1 h2 h3=>k i ob (h i ob h1 h2 h3) h2 h3
theorem Qbv.ext {W W':World} (e:Ext W W'):Qbv W W':=fun i ob h1 _ _=>(e.block i (Qaq h1)).trans h1
theorem Qbv.grown {g : Nat} {c:Array Value} {W W':World} (q:W.grownBy W' (some g)) (r:W.heap[g]? = some (.cells c 55)):Qbv W W':=fun i ob h1 h2 _=>(q.block i (Qaq h1) (fun e=>by
  obtain rfl:=Option.some.inj e
  rw [r] at h1
  exact h2 c (Option.some.inj h1).symm)).trans h1
theorem Qbv.puts {g : Nat} {c:Array Value} {W W':World} (q:Puts W g W') (r:W.heap[g]? = some (.cells c 49)):Qbv W W':=fun i ob h1 _ h3=>(q.2.2.2.2 i (fun e=>by
  subst e
  rw [r] at h1
  exact h3 c (Option.some.inj h1).symm)).trans h1
theorem Qbv.but {g : Nat} {c:Array Value} {W W':World} (q:ExtB g W W') (r:W.heap[g]? = some (.cells c 49)):Qbv W W':=fun i ob h1 _ h3=>(q.2.2.2.2 i (Qaq h1) (fun e=>by
  subst e
  rw [r] at h1
  exact h3 c (Option.some.inj h1).symm)).trans h1
theorem ChN.keep {base : Nat} {sec:List Int} {k:Nat} {v:Value} {W W':World} (h:ChN base sec k v W) (hk:Qbv W W'):ChN base sec k v W':=by
  obtain ⟨w0,h0,gc,gl,cap,lp,ns,q1,q2,q3,q4,q5,q6,q7,q8⟩:=h
  refine ⟨w0,h0,gc,gl,cap,lp,ns,q1,q2,q3,hk _ _ q4 (fun c e=>by cases e) (fun c e=>by cases e),hk _ _ q5 (fun c e=>by cases e) (fun c e=>by cases e),fun j p hp=>?_,q7,q8⟩
  obtain ⟨a1,a2,a3,a4⟩:=q6 j p hp
  exact ⟨a1,hk.chst a2,a3,a4⟩
theorem EpIs.keep {base : Nat} {sec:List Int} {k:Nat} {grp:List Int} {num leaf:Int} {e:Ep} {W W':World} (h:EpIs base sec k grp num leaf e W) (hk:Qbv W W'):EpIs base sec k grp num leaf e W':=⟨h.1,h.2.1,h.2.2.1,h.2.2.2.keep hk⟩
def ownL (v : Value):List Nat:=v.ownBlock.toList
def QjY (es : List Ep):List Ep:=if es.length≤4 then es else es.drop 1
theorem QdO {gs : List Nat} {v:Value} {V W W':World} (h:Qaf gs V W) (q:W.grownBy W' v.ownBlock) (hc:∀ c,v.ownBlock=some c→c∈gs∨V.heap.size≤c):Qaf gs V W' :=
  ⟨q.os.trans h.os,q.tape.trans h.tape,q.output.trans h.output,qT h.size q.size,fun k hk hn=>(q.block k (qL hk h.size) (fun e=>(hc k e.symm).elim hn (by omega))).trans (h.block k hk hn)⟩
set_option maxRecDepth 100000 in
theorem QmX (g : Nat) (grp sec:List Int) (num leaf:Int) (k:Nat) (hk:k≤5) (hgl:grp.length=32) (hsl:sec.length=32) (hsb:Qai sec) (hn0:0≤num) (hn1:num≤4294967295) (hl0:0≤leaf) (hl1:leaf<((2^k:Nat):Int)) (tc tq:TypeId) (w:World) (base:Nat) (hb:base≤w.heap.size) (es:List Ep) (hes:1≤es.length∧es.length≤4) (v:Value) (hg:w.heap[g]? = some (.cells (cat [#[v],#[.bool false]]) 49)) (hO:OwE base es v w) (hgr:∀ e∈es,e.grp=grp) (hlast:∀ e∈es,e.num<num) (hc:w.heap[4]? = some (.cells (ints .u64 QaR) tc)) (hq:w.heap[3]? = some (.cells (ints .u64 Qa9) tq)) (hT:Seat.TabAt w) :
  Calls Tryd.prog 7 #[.pointer (some ⟨g,0,none⟩),.agg (ints .u8 grp),.int .i64 num,.agg (ints .u8 sec),.int .i64 ((2^k:Nat):Int),.int .i64 leaf] w (fun x W=>x=.returned .nilIface∧Qaf (ownL v++[g]) w W∧Qbv w W∧∃ (e:Ep) (v':Value),W.heap[g]? = some (.cells (cat [#[v'],#[.bool false]]) 49)∧OwE base (QjY (es++[e])) v' W∧EpIs w.heap.size sec k grp num leaf e W∧∀ c,v'.ownBlock=some c→v.ownBlock=some c∨w.heap.size≤c):=by
 have h2k:0<2^k:=za1 (by decide)
 obtain ⟨ge,ce,cur,rfl,q2,q3,hpt⟩:=hO.parts (by intro e; rw [e] at hes; exact absurd hes.1 (by decide))
 obtain ⟨n,hn⟩:∃ n,es.length=n:=⟨_,rfl⟩
 rw [hn] at hes hO hg ⊢
 obtain ⟨el,hel⟩:∃ e,es[n-1]? = some e:=⟨_,zbm (by omega)⟩
 obtain ⟨P,tl,hP,rfl⟩:=hpt (n-1) el hel
 have hlt:=hlast el (zbn hel)
 rw [hgr el (zbn hel)] at q3
 obtain ⟨o,ho9⟩:∃ o,o+35=35*n:=⟨35*n-35,by omega⟩
 obtain rfl:P.size=o:=by omega
 obtain ⟨o,hP⟩:∃ o,P.size=o:=⟨_,rfl⟩
 rw [hP] at ho9
 have hn4:=hes
 refine enter 94 [(0,.pointer (some ⟨g,0,none⟩)),(1,.agg (ints .u8 (grp))),(2,.int .i64 num),(3,.agg (ints .u8 (sec))),(4,.int .i64 ((2^k:Nat):Int)),(5,.int .i64 leaf)] Tryd.func7 rfl rfl kj rfl <| sgC fun K5 hK5=>Qar (ints .u8 (grp)) 29 7 rfl kj kj fun g6 W1 l6 e1 r6_1=>?_
 have x1:=zbu (zbr w) e1
 have b6:=qT (zbr w).size l6
 refine Qar (ints .u8 (sec)) 29 9 rfl kj kj fun g7 W2 l7 e2 r7_2=>?_
 have b7:=qT x1.size l7
 refine sg 1 kj <| sgN hK5 <| wp_seq_k fun K8 hK8=>sgC fun K9 hK9=>sg 6 kj ?_
 have r1_2:=(Qaa (Qaa hg e1) e2)
 refine Qab (.bool false) 20 rfl kj (Qad 4 _ g 1 49 _ (.bool false) _ r1_2 rfl kj kj kj) <| sg 1 kj <| sgN hK9 <| cond_false kj <| wp_skip <| hK8 _ _ <| wp_seq_k fun K10 hK10=>sgC fun K11 hK11=>sg 1 kj <| Qau (.int .i64 (((2^k:Nat):Int)-1)) 15 #[.int .i64 ((2^k:Nat):Int)] 24 rfl kj kj ((Qmy k hk) _) fun W3 e3=>?_
 refine Qab (.bool false) 25 rfl kj (Qah (u:=.bool (decide ((((2^k:Nat):Int)-1)<0))) kj (congrArg zax (decide_eq_false (by omega)))) <| sg 2 kj <| Qab (.bool false) 28 rfl kj (Qah (u:=.bool (decide (leaf<0))) kj (congrArg zax (decide_eq_false (by omega)))) <| sg 4 kj <| Qab (.bool false) 33 rfl kj (Qah (u:=.bool (decide (leaf≥((2^k:Nat):Int)))) kj (congrArg zax (decide_eq_false (by omega)))) <| sg 1 kj <| sgN hK11 <| cond_false kj <| wp_skip <| hK10 _ _ ?_
 refine wp_seq_k fun K12 hK12=>sgC fun K13 hK13=>sg 1 kj <| Qab (.bool false) 37 rfl kj (Qah (u:=.bool (decide (num<0))) kj (congrArg zax (decide_eq_false (by omega)))) <| sg 2 kj <| Qab (.bool false) 40 rfl kj (Qah (u:=.bool (decide (num>4294967295))) kj (congrArg zax (decide_eq_false (by omega)))) <| sg 1 kj <| sgN hK13 <| cond_false kj <| wp_skip ?_
 refine hK12 _ _ <| wp_seq_k fun K14 hK14=>sgC fun K15 hK15=>sg 1 kj ?_
 have r1_3:=(Qaa r1_2 e3)
 refine Qau (.pointer (some ⟨ge,o,none⟩)) 16 #[.pointer (some ⟨g,0,none⟩)] 44 rfl kj kj (QcX g ge ce n o _ r1_3 hn4 ho9) fun W4 e4=>sg 1 kj <| sgN hK15 <| wp_seq_k fun K16 hK16=>QaL 18 [⟨none,[(13,none)]⟩,⟨none,[(45,some 0)]⟩,⟨none,[(46,some 1)]⟩,⟨some (47,true),[(2,none),(47,some 2)]⟩,⟨some (47,true),[(13,none),(47,some 2)]⟩,⟨some (47,true),[(49,some 4),(47,some 2)]⟩,⟨some (47,true),[(50,some 5),(47,some 2)]⟩,⟨some (47,true),[(51,some 6),(47,some 2)]⟩,⟨some (47,true),[(48,some 3),(52,some 7),(47,some 2)]⟩,⟨some (47,true),[(53,some 8),(47,some 2)]⟩,⟨some (54,false),[(7,none),(54,some 9)]⟩,⟨some (54,false),[(13,none),(54,some 9)]⟩,⟨some (54,false),[(56,some 11),(54,some 9)]⟩,⟨some (54,false),[(57,some 12),(54,some 9)]⟩,⟨some (54,false),[(58,some 13),(54,some 9)]⟩,⟨some (54,false),[(55,some 10),(59,some 14),(54,some 9)]⟩,⟨some (47,true),[(54,some 9),(60,some 15),(47,some 2)]⟩,⟨none,[(47,some 2),(61,some 16)]⟩] kj kj fun F hF=>Qak (.pointer (some ⟨ge,o,none⟩)) kj kj (fun _=>kj) <| Qak (.bool true) kj kj (fun _=>kj) <| Qak (.bool true) kj kj (fun _=>kj) <| Qak (.int .i64 num) kj kj (fun _=>kj) <| Qak (.pointer (some ⟨ge,o,none⟩)) kj kj (fun _=>kj) ?_
 refine Qak (.pointer (some ⟨ge,o,none⟩)) kj kj (fun _=>kj) <| Qak (.pointer (some ⟨ge,(o+33),none⟩)) kj kj (fun _=>kj) ?_
 have r2_4:=(Qaa (Qaa (Qaa (Qaa q3 e1) e2) e3) e4)
 refine Qa7 (.int .i64 el.num) kj kj (fun W hR=>(Qad 3 _ ge (o+33) 55 _ (.int .i64 el.num) _ (Qaa (Qaa r2_4 (Qaj _)) hR) rfl kj (Qam [P,#[.pointer (some ⟨el.gc,0,none⟩)],ints .u8 (grp)] [#[.int .i64 el.num]] [#[.int .i64 el.leaf],tl] (o+33) (by rw [Qac,Qac,Qac]; simp only [qS,cat,(izT hgl),hP]; rfl) 0 _ rfl) kj)) ?_
 refine Qak (.bool false) kj kj (fun W=>(Qah (u:=.bool (decide (num≤el.num))) kj (congrArg zax (decide_eq_false (by omega))))) <| Qak (.bool false) kj kj (fun _=>kj) ?_
 have r6_4:=(Qaa (Qaa (Qaa r6_1 e2) e3) e4)
 refine Qa7 (.agg (ints .u8 (grp))) kj kj (fun W hR=>(Qap 29 _ g6 29 _ _ (Qaa (Qaa r6_4 (Qaj _)) hR) rfl kj kj (isz (n:=32) kj (izT hgl)))) <| Qak (.pointer (some ⟨ge,o,none⟩)) kj kj (fun _=>kj) <| Qak (.pointer (some ⟨ge,o,none⟩)) kj kj (fun _=>kj) <| Qak (.pointer (some ⟨ge,(o+1),none⟩)) kj kj (fun _=>kj) <| Qa7 (.agg (ints .u8 (grp))) kj kj (fun W hR=>(Qa0 29 _ ge (o+1) 55 _ _ _ (Qaa (Qaa r2_4 (Qaj _)) hR) rfl kj (Qam [P,#[.pointer (some ⟨el.gc,0,none⟩)]] [ints .u8 (grp)] [#[.int .i64 el.num],#[.int .i64 el.leaf],tl] (o+1) (by rw [Qac,Qac]; simp only [qS,cat,hP]; rfl)) kj (isz (n:=32) kj (izT hgl)))) ?_
 refine Qak (.bool false) kj kj (fun W=>(Qhf 29 _ _ _ _ _ (.bool false) rfl kj kj kj (QjN 29 (e:=5) (k:=.u8) (grp) (grp) (decide_eq_true rfl) hgl hgl kj kj kj _))) <| Qak (.bool false) kj kj (fun _=>kj) <| Qak (.bool false) kj kj (fun _=>kj) <| QaQ (hF _ kj fun W5 e5=>?_)
 simp only [ups,up,Kn.val,zaB,zaC,zaD,zaE,za0,zaF]
 clear hF
 have x5:=zbu (zbu (zbu (zbu x1 e2) e3) e4) e5
 refine sgN hK16 <| cond_false kj <| wp_skip <| hK14 _ _ <| wp_seq_k fun K17 hK17=>?_
 have r1_5:=(Qaa (Qaa r1_3 e4) e5)
 have r2_5:=(Qaa r2_4 e5)
 have r6_5:=(Qaa r6_4 e5)
 have r7_5:=(Qaa (Qaa (Qaa r7_2 e3) e4) e5)
 have hTw:Seat.TabAt W5:=hT.ext x5
 have lg0:g<W5.heap.size:=Qaq r1_5
 have lge0:ge<W5.heap.size:=Qaq r2_5
 have ngg:ge≠g:=Qde r2_5 r1_5 (by decide)
 have nb6:g6∉[ge]:=Qax (Qde r6_5 r2_5 (by decide)) QaE
 have nb7:g7∉[ge]:=Qax (Qde r7_5 r2_5 (by decide)) QaE
 refine region_walkM (fun W=>Qaf [ge] W5 W) 16 kj fun Ws eWs=>⟨zb2 (zb0 _ _) eWs,?_⟩
 refine wm_val 0 (.pointer (some ⟨g,0,none⟩)) 64 rfl rfl kj kj kj (fun _ _ _ h=>h) (fun W hR=>by kernel_rfl) <| wm_val 1 (.pointer (some ⟨g,0,none⟩)) 65 rfl rfl kj kj kj (fun _ _ _ h=>h) (fun W hR=>by kernel_rfl) <| wm_val 2 (.pointer (some ⟨g,0,none⟩)) 66 rfl rfl kj kj kj (fun _ _ _ h=>h) (fun W hR=>by kernel_rfl) <| wm_val 3 (.pointer (some ⟨g,0,none⟩)) 67 rfl rfl kj kj kj (fun _ _ _ h=>h) (fun W hR=>by kernel_rfl) <| wm_val 4 (.slice (some ⟨ge,0,none⟩) n ce) 68 rfl rfl kj kj kj (fun _ _ _ h=>h) (fun W hR=>(Qad 47 _ g 0 49 _ (.slice (some ⟨ge,0,none⟩) n ce) _ (zb1 hR r1_5 (Qax (Ne.symm ngg) QaE)) rfl kj kj kj)) <| wm_val 5 (.agg (ints .u8 (sec))) 69 rfl rfl kj kj kj (fun _ _ _ h=>h) (fun W hR=>(Qap 29 _ g7 29 _ _ (zb1 hR r7_5 nb7) rfl kj kj (isz (n:=32) kj (izT hsl)))) <| wm_val 6 (.int .i64 ((2^k:Nat):Int)) 70 rfl rfl kj kj kj (fun _ _ _ h=>h) (fun W hR=>by kernel_rfl) <| wm_val 8 (.agg (ints .u8 (grp))) 72 rfl rfl kj kj kj (fun _ _ _ h=>h) (fun W hR=>(Qap 29 _ g6 29 _ _ (zb1 hR r6_5 nb6) rfl kj kj (isz (n:=32) kj (izT hgl)))) <| wm_val 9 (.int .i64 num) 73 rfl rfl kj kj kj (fun _ _ _ h=>h) (fun W hR=>by kernel_rfl) <| wm_val 10 (.int .i64 leaf) 74 rfl rfl kj kj kj (fun _ _ _ h=>h) (fun W hR=>by kernel_rfl) ?_
 refine Qgi 7 kj (Qmq rfl (fun v W'=>Ext Ws W'∧ChN Ws.heap.size sec k v W') 17 #[.agg (ints .u8 sec),.int .i64 ((2^k:Nat):Int)] 71 rfl kj kj ((newC k hk sec tc tq Ws (Qaa (Qaa (Qaa (Qaa (Qaa (Qaa hc e1) e2) e3) e4) e5) eWs) (Qaa (Qaa (Qaa (Qaa (Qaa (Qaa hq e1) e2) e3) e4) e5) eWs) (hTw.ext eWs) hsl hsb).mono fun e W2 ⟨v,h1,h2,h3⟩=>⟨v,h1,h2,Ws,qR _,h3⟩) (fun v W h=>zb2 (zb2 (zb0 _ _) eWs) h.1) fun u7 W7 h7=>?_)
 obtain ⟨e7,h7⟩:=h7
 obtain ⟨gc,rfl⟩:∃ gc:Nat,u7=.pointer (some ⟨gc,0,none⟩):=by
  obtain ⟨w0,h0,gc,gl,cap,lp,ns,h1,-⟩:=h7
  exact ⟨gc,h1⟩
 refine wm_val 11 (.agg (cat (epP ⟨gc,grp,num,leaf⟩))) 75 rfl rfl kj kj kj (fun _ _ _ h=>h) (fun W hR=>QlT (.tmp 71) (.tmp 72) (.tmp 73) (.tmp 74) ⟨gc,grp,num,leaf⟩ rfl rfl rfl rfl rfl hgl) <| Qgi 12 kj (Qjl rfl (fun v W'=>Ext W7 W'∧∃ g0,v=.slice (some ⟨g0,0,none⟩) 1 1∧W'.heap[g0]? = some (.cells (cat (epP ⟨gc,grp,num,leaf⟩)) 55)) 76 rfl kj ⟨_,_,Qhh 47 55 35 (.tmp 75) (.agg (cat (epP ⟨gc,grp,num,leaf⟩))) rfl rfl kj kj kj (Qdi ⟨gc,grp,num,leaf⟩ hgl) (by decide) (by decide),Qbb _ _,_,rfl,heap_alloc_new _ _⟩ (fun v W' h=>zb2 (zb2 (zb2 (zb0 _ _) eWs) e7) h.1) fun v12 W12 h12=>?_)
 obtain ⟨e12,g0,rfl,r12⟩:=h12
 have hE12:=EpIs.ext (⟨rfl,rfl,rfl,h7⟩:EpIs Ws.heap.size sec k grp num leaf ⟨gc,grp,num,leaf⟩ W7) e12
 have hO12:=OwE.ext (OwE.ext (OwE.ext (OwE.ext hO x5) eWs) e7) e12
 have hK12:Qaf [ge] W5 W12:=zb2 (zb2 (zb2 (zb0 _ _) eWs) e7) e12
 refine Qgi 13 kj (Qjl rfl (fun v W'=>OwE base (es++[⟨gc,grp,num,leaf⟩]) v W'∧W12.grownBy W' (zbp (some ⟨ge,0,none⟩) n ce).ownBlock∧(v.ownBlock=(zbp (some ⟨ge,0,none⟩) n ce).ownBlock∨v.ownBlock=some W12.heap.size)) 77 rfl kj (OwE.app 56 (.tmp 68) (.tmp 76) 47 rfl kj kj (by decide) rfl rfl hO12 hgl r12 (by omega) (qT hb (qT x5.size hK12.size))) (fun v W' h=>QdO hK12 h.2.1 (fun c hc=>.inl (by obtain rfl:=Option.some.inj hc; exact zbg))) fun v13 W13 h13=>?_)
 obtain ⟨hO13,hg13,hv13⟩:=h13
 have hK13:Qaf [ge] W5 W13:=QdO hK12 hg13 (fun c hc=>.inl (by obtain rfl:=Option.some.inj hc; exact zbg))
 have hgk:∀ i,i<W12.heap.size→i≠ge→W13.heap[i]? = W12.heap[i]?:=fun i h1 h2=>hg13.block i h1 (fun e=>h2 (Option.some.inj e))
 have lgs:ge<Ws.heap.size:=qL lge0 eWs.size
 have hrge:=Qaa (Qaa (Qaa r2_5 eWs) e7) e12
 have hT13:Qbv W5 W13:=Qbv.trans (Qbv.ext (zbu (zbu eWs e7) e12)) (Qbv.grown hg13 hrge)
 have hE13:=hE12.keep (Qbv.grown hg13 hrge)
 have hrg13:=(hgk g (qL lg0 hK12.size) (Ne.symm ngg)).trans (Qaa (Qaa (Qaa r1_5 eWs) e7) e12)
 have hv13g:∀ c9,v13.ownBlock=some c9→c9=ge∨W5.heap.size≤c9:=fun c9 h=>by
  rcases hv13 with h2 | h2 <;> rw [h] at h2 <;> obtain rfl:=Option.some.inj h2
  ·exact .inl rfl
  ·exact .inr hK12.size
 have hle:(es++[(⟨gc,grp,num,leaf⟩:Ep)]).length=n+1:=by rw [zac,zbq,hn]
 obtain ⟨g3,c3,cur3,hv3,lg3,rg3,-⟩:=hO13.parts (by simp)
 rw [hle] at hv3
 subst hv3
 refine Qgi 14 kj (Qjl rfl (fun v W'=>v=.pointer (some ⟨g,0,none⟩)∧W'=W13) 78 rfl kj ⟨_,_,kj,rfl,rfl⟩ (fun v W' h=>h.2▸zb3 (zb0 _ _) hK13 (fun c hc=>.inl hc)) fun v78 W78 h78=>?_)
 obtain ⟨rfl,rfl⟩:=h78
 refine wm_val 15 (.pointer (some ⟨g,0,none⟩)) 79 rfl rfl kj kj kj (fun _ _ _ h=>h) (fun W hR=>by kernel_rfl) <| Qgi 16 kj (QkI g _ (cat [#[.slice (some ⟨g3,0,none⟩) (n+1) c3],#[.bool false]]) 49 hrg13 rfl rfl kj (Qbd 47 _ _ g 0 49 _ (.slice (some ⟨g3,0,none⟩) (n+1) c3) hrg13 rfl kj kj kj kj kj rfl) kj fun W16 p16 rg16=>?_)
 have hK16:Qaf [ge,g] W5 W16:=Qaf.puts (zb3 (zb0 _ _) hK13 (fun c hc=>.inl (by rw [zab] at hc; subst hc; exact zbg))) p16 (.inl (zbf _ zbg))
 have hKw:Qaf [ge,g] w W16:=zb3 (zb2 (zb0 _ _) x5) hK16 (fun c hc=>.inl hc)
 have hnvg:∀ c9,(.slice (some ⟨g3,0,none⟩) (n+1) c3:Value).ownBlock=some c9→c9≠g:=fun c9 h=>by rcases hv13g c9 h with rfl | h2; exact ngg; omega
 have lgs2:g<Ws.heap.size:=qL lg0 eWs.size
 have hO16:=hO13.keep (fun c9 h=>p16.2.2.2.2 c9 (hnvg c9 h))
 have hE16:=hE13.keep (Qbv.puts p16 hrg13)
 have hT16:Qbv w W16:=Qbv.trans (Qbv.ext x5) (Qbv.trans hT13 (Qbv.puts p16 hrg13))
 have hbs:w.heap.size≤Ws.heap.size:=qT x5.size eWs.size
 have hx0s:w.heap.size≤W5.heap.size:=x5.size
 have hown:∀ c9,(.slice (some ⟨g3,0,none⟩) (n+1) c3:Value).ownBlock=some c9→(zbp (some ⟨ge,0,none⟩) n ce).ownBlock=some c9∨w.heap.size≤c9:=fun c9 h=>(hv13g c9 h).imp (fun e=>by rw [e]; rfl) (fun h2=>qT hx0s h2)
 have rg3b:=(p16.2.2.2.2 g3 (hnvg g3 rfl)).trans rg3
 refine hK17 _ _ <| wp_seq_k fun K18 hK18=>wp_seq_k fun K19 hK19=>?_
 rcases zas n 4 with h4 | h4
 ·skip
  refine Qae <| sg 3 kj <| Qab (.slice (some ⟨g3,0,none⟩) (n+1) c3) 83 rfl kj (Qad 47 _ g 0 49 _ (.slice (some ⟨g3,0,none⟩) (n+1) c3) _ rg16 rfl kj kj kj) <| sg 1 kj <| Qab (.bool false) 85 rfl kj (Qah (u:=.bool (decide (((n+1:Nat):Int)>4))) kj (congrArg zax (decide_eq_false (by omega)))) <| sgN hK19 <| cond_false kj <| wp_skip <| hK18 _ _ <| sgB kj ?_
  refine wp_ret ?_
  exact (show bodyPost _ _ _ .ret _ _ from ret1 (.nilIface) rfl (Qaz kj) ⟨rfl,zb2 hKw (zbr W16),Qbv.trans hT16 (Qbv.ext (zbr W16)),_,_,rg16,(by rw [show QjY (es++[(⟨gc,grp,num,leaf⟩:Ep)])=es++[⟨gc,grp,num,leaf⟩] from if_pos (by omega)]; exact hO16.ext (zbr W16)),(hE16.ext (zbr W16)).base hbs,hown⟩)
 ·skip
  have hn44:n=4:=by omega
  obtain ⟨e0,r,rfl⟩:∃ e0 r,es=e0::r:=by
   cases es with
   | nil=>rw [za4] at hn; omega
   | cons e0 r=>exact ⟨e0,r,rfl⟩
  have hr3:r.length=3:=by rw [zbj] at hn; omega
  refine Qae <| sg 3 kj <| Qab (.slice (some ⟨g3,0,none⟩) (n+1) c3) 83 rfl kj (Qad 47 _ g 0 49 _ (.slice (some ⟨g3,0,none⟩) (n+1) c3) _ rg16 rfl kj kj kj) <| sg 1 kj <| Qab (.bool true) 85 rfl kj (Qah (u:=.bool (decide (((n+1:Nat):Int)>4))) kj (congrArg zax (decide_eq_true (by omega)))) <| sgN hK19 <| cond_true kj <| Qae <| sg 4 kj <| Qab (.slice (some ⟨g3,0,none⟩) (n+1) c3) 90 rfl kj (Qad 47 _ g 0 49 _ (.slice (some ⟨g3,0,none⟩) (n+1) c3) _ rg16 rfl kj kj kj) ?_
  refine Qav (fun v W'=>OwE base (r++[(⟨gc,grp,num,leaf⟩:Ep)]) v W'∧W16.grownBy W' (some g3)∧v.ownBlock=some g3) 18 #[.slice (some ⟨g3,0,none⟩) (n+1) c3,.int .i64 0,.int .i64 1] 91 rfl kj kj ((QlA base e0 (r++[(⟨gc,grp,num,leaf⟩:Ep)]) (by simp [hr3]) _ _ (show OwE base (e0::(r++[(⟨gc,grp,num,leaf⟩:Ep)])) _ _ from hO16.ext (zbr W16))).mono (by rintro e w' ⟨v,rfl,h1,h2,h3⟩; exact ⟨_,rfl,h1,h2,h3⟩)) fun v17 W101 h21=>?_
  obtain ⟨hO17,hg17,hv17⟩:=h21
  have hK17:Qaf [ge,g] w W101:=QdO (v:=.slice (some ⟨g3,0,none⟩) 0 0) (zb2 hKw (zbr W16)) hg17 (fun c9 hc=>by obtain rfl:=Option.some.inj hc; rcases hv13g g3 rfl with h2 | h2; exact .inl (by rw [h2]; exact zbg); exact .inr (qT hx0s h2))
  have rg17:=(hg17.block g (Qaq rg16) (fun e=>hnvg g3 rfl (Option.some.inj e.symm))).trans rg16
  have hE17:=(hE16.ext (zbr W16)).keep (Qbv.grown hg17 (Qaa rg3b (zbr W16)))
  have hT17:Qbv w W101:=Qbv.trans hT16 (Qbv.trans (Qbv.ext (zbr W16)) (Qbv.grown hg17 (Qaa rg3b (zbr W16))))
  have hle17:(r++[(⟨gc,grp,num,leaf⟩:Ep)]).length=4:=by rw [zac,zbq,hr3]
  obtain ⟨g4,c4,cur4,hv4,-,rg4,-⟩:=hO17.parts (by simp)
  rw [hle17] at hv4
  subst hv4
  obtain rfl:g4=g3:=Option.some.inj hv17
  refine sg 2 kj <| Qan g _ (cat [#[.slice (some ⟨g4,0,none⟩) 4 c4],#[.bool false]]) 49 rg17 rfl kj (Qbd 47 _ _ g 0 49 _ (.slice (some ⟨g4,0,none⟩) 4 c4) rg17 rfl kj kj kj kj kj rfl) fun W102 p102 r1_102=>?_
  have x102:=zbw (zbv g W101) p102
  refine Qal <| hK18 _ _ <| sgB kj <| wp_ret ?_
  exact (show bodyPost _ _ _ .ret _ _ from ret1 (.nilIface) rfl (Qaz kj) ⟨rfl,Qaf.but hK17 x102 (.inl (zbf _ zbg)),Qbv.trans hT17 (Qbv.but x102 rg17),_,_,r1_102,(by rw [show QjY (e0::r++[(⟨gc,grp,num,leaf⟩:Ep)])=r++[(⟨gc,grp,num,leaf⟩:Ep)] from if_neg (by simp [hr3])]; exact hO17.keep (fun c9 h=>x102.2.2.2.2 c9 (by obtain rfl:=Option.some.inj h; exact Qaq rg4) (fun e=>hnvg c9 h e))),(hE17.keep (Qbv.but x102 rg17)).base hbs,fun c9 h=>hown c9 h⟩)
end Pk
end
section
namespace Pk
open Go Go.RowKit
open Rely Auto Own Sha
open Cha
open Ae hiding run_storeQ
open Cn hiding nb_new run_extractT
open Wk
set_option maxRecDepth 100000 in
theorem QnC (gb ge ce gc:Nat) (tl:Array Value) (grp:List Int) (hgl:grp.length=32) (w:World) (hgb:w.heap[gb]? = some (.cells (cat [#[.slice (some ⟨ge,0,none⟩) 1 ce],#[.bool false]]) 49)) (hge:w.heap[ge]? = some (.cells (cat [#[.pointer (some ⟨gc,0,none⟩)],ints .u8 grp,#[.int .i64 0],#[.int .i64 0],tl]) 55)) (gl len cap:Nat) (lp:Array Value) (hgc:w.heap[gc]? = some (.cells #[.slice (some ⟨gl,0,none⟩) len cap] 71)) (hgl_:w.heap[gl]? = some (.cells lp 73)) (cg cm:Nat) (hi:0<len) (hli:lp[0]? = some (.pointer (some ⟨cg,0,none⟩))) (s0:List Int) (hch:ChSt cg cm s0 [] 0 [] w) (tc tq th tr:TypeId) (hc:w.heap[4]? = some (.cells (ints .u64 QaR) tc)) (hq:w.heap[3]? = some (.cells (ints .u64 Qa9) tq)) (hr4:w.heap[1]? = some (.cells (ints .i64 qQ) tr)) (hh4:w.heap[0]? = some (.cells (ints .u32 qH) th)) (hNc:4∉[cg,cm]) (hNq:3∉[cg,cm]) (hNr:1∉[cg,cm]) (hNh:0∉[cg,cm]) (text fs:List Int) (htl:text.length≤1024) (es:QcS ((keyV (itV s0 0)).take 32) ((keyV (itV s0 0)).drop 32) (grp++[0,0,0,0]++[0]++[0,0,0,0]) text=fs) (hgrb:Qai grp) (v:Value) (hst:∀ W,Qaf [cg,cm] w W→RdK .u8 W.heap.size text v W) :
  Calls Tryd.prog 8 #[.pointer (some ⟨gb,0,none⟩),v] w (fun x W=>∃ u,x=.returned (.tuple #[.agg (cat [ints .u8 grp,#[.int .i64 0],#[.int .i64 0],#[.int .i64 0],#[u]]),.nilIface])∧Qaf [cg,cm] w W∧ChSt cg cm s0 [0] 1 (QcG [] s0 0 0) W∧OwnN .u8 5 w.heap.size fs u W):=by
 obtain ⟨a_t,c_t,rfl,-⟩:=id (hst _ (zb0 _ _))
 have hctxb:Qai (grp++[0,0,0,0]++[0]++[0,0,0,0]):=fun x hx=>by
  simp only [zar,za6] at hx
  rcases hx with h | h
  ·exact hgrb x h
  ·have:x=0:=by simpa using h
   subst this; exact ⟨by decide,by decide⟩
 have hnl:((keyV (itV s0 0)).drop 32).length=12:=by rw [zbo,QaI]
 refine enter 69 [(0,.pointer (some ⟨gb,0,none⟩)),(1,.slice a_t text.length c_t)] Tryd.func8 rfl rfl kj rfl ?_
 refine wp_seq_k fun K9 hK9=>?_
 refine Qae ?_
 refine Qar (cat [ints .u8 (zao 32 0),#[.int .i64 0],#[.int .i64 0],#[.int .i64 0],#[.slice none 0 0]]) 35 4 rfl kj kj fun g10 W1 l10 e1 r10_1=>?_
 have x1:Ext w W1:=zbu (zbr w) e1
 have b10:w.heap.size≤g10:=qT (zbr w).size l10
 refine Qab (.nilIface) 5 rfl kj kj ?_
 refine Qal ?_
 refine hK9 _ _ ?_
 refine wp_seq_k fun K11 hK11=>?_
 refine Qae ?_
 refine Qab (.pointer (some ⟨gb,0,none⟩)) 10 rfl kj kj ?_
 have r1_1:=(Qaa hgb e1)
 refine Qau (.pointer (some ⟨ge,0,none⟩)) 16 #[.pointer (some ⟨gb,0,none⟩)] 11 rfl kj kj (Qfl gb ge ce gc tl grp hgl _ r1_1) fun W2 e2=>?_
 have x2:Ext w W2:=zbu x1 e2
 refine Qab (.pointer (some ⟨ge,0,none⟩)) 6 rfl kj kj ?_
 refine Qal ?_
 refine hK11 _ _ ?_
 refine wp_seq_k fun K12 hK12=>?_
 refine wp_seq_k fun K13 hK13=>?_
 refine Qae ?_
 refine Qab (.pointer (some ⟨ge,0,none⟩)) 12 rfl kj kj ?_
 refine Qab (.bool false) 13 rfl kj kj ?_
 refine Qal ?_
 refine hK13 _ _ ?_
 refine cond_false kj ?_
 refine wp_skip ?_
 refine hK12 _ _ ?_
 refine wp_seq_k fun K14 hK14=>?_
 refine wp_seq_k fun K15 hK15=>?_
 refine Qae ?_
 refine Qab (.slice a_t text.length c_t) 16 rfl kj kj ?_
 refine Qab (.int .i64 ((text.length:Nat):Int)) 17 rfl kj kj ?_
 refine Qab (.bool false) 18 rfl kj (Qah (u:=.bool (decide (((text.length:Nat):Int)>1024))) kj (congrArg zax (decide_eq_false (by omega)))) ?_
 refine Qal ?_
 refine hK15 _ _ ?_
 refine cond_false kj ?_
 refine wp_skip ?_
 refine hK14 _ _ ?_
 refine wp_seq_k fun K16 hK16=>?_
 have r1_2:=(Qaa r1_1 e2)
 have r2_1:=(Qaa hge e1)
 have r2_2:=(Qaa r2_1 e2)
 have r3_1:=(Qaa hgc e1)
 have r3_2:=(Qaa r3_1 e2)
 have r4_1:=(Qaa hgl_ e1)
 have r4_2:=(Qaa r4_1 e2)
 have r5_1:=(Qaa hc e1)
 have r5_2:=(Qaa r5_1 e2)
 have r6_1:=(Qaa hq e1)
 have r6_2:=(Qaa r6_1 e2)
 have r7_1:=(Qaa hr4 e1)
 have r7_2:=(Qaa r7_1 e2)
 have r8_1:=(Qaa hh4 e1)
 have r8_2:=(Qaa r8_1 e2)
 have r10_2:=(Qaa r10_1 e2)
 have hch0:ChSt cg cm s0 [] 0 [] W2:=hch.ext x2
 have hcg0:=hch0.glt
 have hcm0:=hch0.mp.lt
 refine QbO (fun W=>Qaf [cg,cm] W2 W) kj fun Ws eWs=>⟨zb2 (zb0 _ _) eWs,?_⟩
 refine QaA 0 (.pointer (some ⟨ge,0,none⟩)) 22 rfl rfl kj kj (fun _ _ _ h=>h) (fun W hR=>by kernel_rfl) ?_
 refine QaA 1 (.pointer (some ⟨ge,0,none⟩)) 23 rfl rfl kj kj (fun _ _ _ h=>h) (fun W hR=>by kernel_rfl) ?_
 refine QaA 2 (.pointer (some ⟨ge,0,none⟩)) 24 rfl rfl kj kj (fun _ _ _ h=>h) (fun W hR=>by kernel_rfl) ?_
 refine QaA 3 (.pointer (some ⟨gc,0,none⟩)) 25 rfl rfl kj kj (fun _ _ _ h=>h) (fun W hR=>(Qad 53 _ ge 0 55 _ (.pointer (some ⟨gc,0,none⟩)) _ (zb1 hR r2_2 (nin r2_2 hch0 (by decide))) rfl kj (Qam [] [#[.pointer (some ⟨gc,0,none⟩)]] [ints .u8 (grp),#[.int .i64 0],#[.int .i64 0],tl] 0 kj 0 _ rfl) kj)) ?_
 refine QaA 4 (.pointer (some ⟨ge,0,none⟩)) 26 rfl rfl kj kj (fun _ _ _ h=>h) (fun W hR=>by kernel_rfl) ?_
 refine QaA 5 (.pointer (some ⟨ge,0,none⟩)) 27 rfl rfl kj kj (fun _ _ _ h=>h) (fun W hR=>by kernel_rfl) ?_
 refine QaA 6 (.pointer (some ⟨ge,34,none⟩)) 28 rfl rfl kj kj (fun _ _ _ h=>h) (fun W hR=>by kernel_rfl) ?_
 refine QaA 7 (.int .i64 0) 29 rfl rfl kj kj (fun _ _ _ h=>h) (fun W hR=>(Qad 3 _ ge 34 55 _ (.int .i64 0) _ (zb1 hR r2_2 (nin r2_2 hch0 (by decide))) rfl kj (Qam [#[.pointer (some ⟨gc,0,none⟩)],ints .u8 (grp),#[.int .i64 0]] [#[.int .i64 0]] [tl] 34 (by rw [Qac,Qac,Qac]; simp only [qS,cat,((Qat _ _).trans hgl)]; rfl) 0 _ rfl) kj)) ?_
 refine Qft 8 12 3 rfl rfl kj kj kj 30 7 rfl rfl kj (fun _=>kj) (fun W=>ChSt cg cm s0 [] 0 [] W) (Qaf [cg,cm]) (fun u W=>ChSt cg cm s0 [0] 1 (QcG [] s0 0 0) W∧QbA W2.heap.size 0 (keyV (itV s0 0)) u W) (fun v W=>∃ g,v=.pointer (some ⟨g,0,none⟩)∧W2.heap.size≤g∧W.heap[g]? = some (.cells (cat [#[.int .i64 0],ints .u8 (zao 32 0),#[.slice none 0 0]]) 60)) (fun u=>[(32,.nilIface),(31,u),(21,.tuple #[u,.nilIface])]) _ _ _ rfl kj (fun u x hx=>by simp only [za7,zan,or_false] at hx; rcases hx with rfl | rfl | rfl; exact (by decide:(32:Nat)≠7); exact (by decide:(31:Nat)≠7); exact (by decide:(21:Nat)≠7)) (by decide) (fun _ _ e h=>h.ext e) (fun _ _ h e=>zb2 h e) (fun _ _ _ e h=>⟨h.1.ext e,QbA.ext h.2 e⟩) (fun _ _ _ _ hK h=>by obtain ⟨g,a1,a2,a3⟩:=h; exact ⟨g,a1,a2,zb1 hK a3 (Qax (Nat.ne_of_gt (qL hcg0 a2)) (Qax (Nat.ne_of_gt (qL hcm0 a2)) QaE))⟩) (fun W hR hP=>⟨19,#[.pointer (some ⟨gc,0,none⟩),.int .i64 0],by kernel_rfl,(show Calls Tryd.prog 19 #[.pointer (some ⟨gc,0,none⟩),.int .i64 0] W _ from Qma gc gl len cap lp W (zb1 hR r3_2 (nin r3_2 hch0 (by decide))) (zb1 hR r4_2 (nin r4_2 hch0 (by decide))) cg 0 hi hli tc tq (zb1 hR r5_2 hNc) (zb1 hR r6_2 hNq) hP (by decide) (fun e=>hNc (by simp [←e])) (fun e=>hNq (by simp [←e]))).mono (by rintro e W' ⟨u,rfl,k1,k2,k3⟩; exact ⟨u,rfl,zb3 hR k1 (fun c hc=>.inl hc),k1,k2,QbA.base (Qaf.size hR) k3⟩)⟩) (fun L' W hR=>⟨_,_,(by kernel_rfl:_=Result.ok (Next.value (.pointer (some ⟨W.heap.size,0,none⟩))) (W.alloc (.cells (cat [#[.int .i64 0],ints .u8 (zao 32 0),#[.slice none 0 0]]) 60))),Qbb _ _,_,rfl,Qaf.size hR,heap_alloc_new _ _⟩) (hch0.ext eWs) (fun u W hR kk=>by refine QaA 9 (.tuple #[u,.nilIface]) 21 rfl rfl kj kj (fun _ _ _ h=>h) (fun W hR=>by kernel_rfl) ?_; refine QaA 10 (u) 31 rfl rfl kj kj (fun _ _ _ h=>h) (fun W hR=>by kernel_rfl) ?_; refine QaA 11 (.nilIface) 32 rfl rfl kj kj (fun _ _ _ h=>h) (fun W hR=>by kernel_rfl) ?_; exact QcP 12 kj kk) (fun u v2 W hR kk=>by refine QaA 9 (.tuple #[u,.nilIface]) 21 rfl rfl kj kj (fun _ _ _ h=>h) (fun W hR=>by kernel_rfl) ?_; refine QaA 10 (u) 31 rfl rfl kj kj (fun _ _ _ h=>h) (fun W hR=>by kernel_rfl) ?_; refine QaA 11 (.nilIface) 32 rfl rfl kj kj (fun _ _ _ h=>h) (fun W hR=>by kernel_rfl) ?_; exact kk) fun u1 v2 W3 q1 q2 q3=>?_
 obtain ⟨hch2,uo,rfl,hu⟩:=q1
 obtain ⟨g7,rfl,l7,r7_3⟩:=q2
 obtain ⟨a_n,c_n,rfl,-⟩:=id (zbz hu)
 have nb7:=QiT hu r7_3 (by decide)
 refine QcP 13 kj (Qd3 g7 _ (cat [#[.int .i64 0],ints .u8 ((keyV (itV s0 0)).take 32),#[.slice a_n (((keyV (itV s0 0)).drop 32).length) c_n]]) 60 r7_3 rfl rfl kj (Qao 60 _ _ g7 60 _ _ r7_3 rfl kj kj (isz (n:=34) kj (by rw [Qac,Qac,Qac]; simp only [qS,cat,((Qat _ _).trans (QaX (QaI _)))]; rfl)) (eqsz (n:=34) (by rw [Qac,Qac,Qac]; simp only [qS,cat,((Qat _ _).trans (qZ (n:=32)))]; rfl) (by rw [Qac,Qac,Qac]; simp only [qS,cat,((Qat _ _).trans (QaX (QaI _)))]; rfl)) (Qbn _ (by intro a ha; simp only [za7,zan,or_false] at ha; rcases ha with rfl | rfl | rfl; exact (Qa6 _ rfl); exact (Qay _ _); exact (Qa6 _ rfl)))) (fun W' p=>Qaf.puts q3 p (.inr l7)) fun W4 p4 r7_4=>?_)
 have hu2:=Qd8 hu p4 nb7
 have hch3:=hch2.keep (p4.2.2.2.2 cg (zaz (qL hcg0 l7))) (p4.2.2.2.2 cm (zaz (qL hcm0 l7)))
 have hK:Qaf [cg,cm] W2 W4:=Qaf.puts q3 p4 (.inr l7)
 have hKw:Qaf [cg,cm] w W4:=zb3 (zb2 (zb0 _ _) x2) hK (fun c hc=>.inl hc)
 have rk1:=zbt p4 (zb1 q3 r1_2 (nin r1_2 hch0 (by decide))) (zaz (qL (Qaq r1_2) l7))
 have rk2:=zbt p4 (zb1 q3 r2_2 (nin r2_2 hch0 (by decide))) (zaz (qL (Qaq r2_2) l7))
 have rk3:=zbt p4 (zb1 q3 r3_2 (nin r3_2 hch0 (by decide))) (zaz (qL (Qaq r3_2) l7))
 have rk4:=zbt p4 (zb1 q3 r4_2 (nin r4_2 hch0 (by decide))) (zaz (qL (Qaq r4_2) l7))
 have rk5:=zbt p4 (zb1 q3 r5_2 hNc) (zaz (qL (Qaq r5_2) l7))
 have rk6:=zbt p4 (zb1 q3 r6_2 hNq) (zaz (qL (Qaq r6_2) l7))
 have rk7:=zbt p4 (zb1 q3 r7_2 hNr) (zaz (qL (Qaq r7_2) l7))
 have rk8:=zbt p4 (zb1 q3 r8_2 hNh) (zaz (qL (Qaq r8_2) l7))
 have rk10:=zbt p4 (zb1 q3 r10_2 (nin r10_2 hch0 (by decide))) (zaz (qL (Qaq r10_2) l7))
 refine QaA 14 (.nilIface) 8 rfl rfl kj kj (fun _ _ _ h=>h) (fun W hR=>by kernel_rfl) ?_
 refine QeT kj ?_
 have nb4:(zbp a_n ((keyV (itV s0 0)).drop 32).length c_n).ownBlock≠some g10:=QbP hu (Qaq r10_2)
 refine hK16 _ _ ?_
 refine wp_seq_k fun K18 hK18=>?_
 refine wp_seq_k fun K19 hK19=>?_
 refine Qae ?_
 refine Qab (.nilIface) 33 rfl kj kj ?_
 refine Qab (.bool false) 34 rfl kj kj ?_
 refine Qal ?_
 refine hK19 _ _ ?_
 refine cond_false kj ?_
 refine wp_skip ?_
 refine hK18 _ _ ?_
 refine wp_seq_k fun K20 hK20=>?_
 refine Qbg 16 [⟨none,[(6,none)]⟩,⟨none,[(37,some 0)]⟩,⟨none,[(38,some 1)]⟩,⟨none,[(39,some 2)]⟩,⟨none,[(6,none)]⟩,⟨none,[(41,some 4)]⟩,⟨none,[(42,some 5)]⟩,⟨none,[(43,some 6)]⟩,⟨none,[(6,none)]⟩,⟨none,[(45,some 8)]⟩,⟨none,[(46,some 9)]⟩,⟨none,[(47,some 10)]⟩,⟨none,[(7,none)]⟩,⟨none,[(49,some 12)]⟩,⟨none,[(40,some 3),(44,some 7),(48,some 11),(50,some 13)]⟩,⟨none,[]⟩] kj kj fun F hF=>?_
 refine Qa8 (Qas _) (.pointer (some ⟨ge,0,none⟩)) kj kj (fun W=>by kernel_rfl) ?_
 refine Qa8 (Qas _) (.pointer (some ⟨ge,0,none⟩)) kj kj (fun W=>by kernel_rfl) ?_
 refine Qa8 (Qas _) (.pointer (some ⟨ge,1,none⟩)) kj kj (fun W=>by kernel_rfl) ?_
 refine Qbc (Qas _) (.agg (ints .u8 (grp))) kj kj (fun W hR=>(Qa0 29 _ ge 1 55 _ _ _ (Qaa (Qaa rk2 (Qaj _)) hR) rfl kj (Qam [#[.pointer (some ⟨gc,0,none⟩)]] [ints .u8 (grp)] [#[.int .i64 0],#[.int .i64 0],tl] 1 kj) kj (isz (n:=32) kj ((Qat _ _).trans hgl)))) ?_
 refine Qa8 (Qas _) (.pointer (some ⟨ge,0,none⟩)) kj kj (fun W=>by kernel_rfl) ?_
 refine Qa8 (Qas _) (.pointer (some ⟨ge,0,none⟩)) kj kj (fun W=>by kernel_rfl) ?_
 refine Qa8 (Qas _) (.pointer (some ⟨ge,33,none⟩)) kj kj (fun W=>by kernel_rfl) ?_
 refine Qbc (Qas _) (.int .i64 0) kj kj (fun W hR=>(Qad 3 _ ge 33 55 _ (.int .i64 0) _ (Qaa (Qaa rk2 (Qaj _)) hR) rfl kj (Qam [#[.pointer (some ⟨gc,0,none⟩)],ints .u8 (grp)] [#[.int .i64 0]] [#[.int .i64 0],tl] 33 (by rw [Qac,Qac]; simp only [qS,cat,((Qat _ _).trans hgl)]; rfl) 0 _ rfl) kj)) ?_
 refine Qa8 (Qas _) (.pointer (some ⟨ge,0,none⟩)) kj kj (fun W=>by kernel_rfl) ?_
 refine Qa8 (Qas _) (.pointer (some ⟨ge,0,none⟩)) kj kj (fun W=>by kernel_rfl) ?_
 refine Qa8 (Qas _) (.pointer (some ⟨ge,34,none⟩)) kj kj (fun W=>by kernel_rfl) ?_
 refine Qbc (Qas _) (.int .i64 0) kj kj (fun W hR=>(Qad 3 _ ge 34 55 _ (.int .i64 0) _ (Qaa (Qaa rk2 (Qaj _)) hR) rfl kj (Qam [#[.pointer (some ⟨gc,0,none⟩)],ints .u8 (grp),#[.int .i64 0]] [#[.int .i64 0]] [tl] 34 (by rw [Qac,Qac,Qac]; simp only [qS,cat,((Qat _ _).trans hgl)]; rfl) 0 _ rfl) kj)) ?_
 refine Qa8 (Qas _) (.pointer (some ⟨g7,0,none⟩)) kj kj (fun W=>by kernel_rfl) ?_
 refine Qbc (Qas _) (.int .i64 0) kj kj (fun W hR=>(Qad 3 _ g7 0 60 _ (.int .i64 0) _ (Qaa (Qaa r7_4 (Qaj _)) hR) rfl kj (Qam [] [#[.int .i64 0]] [ints .u8 ((keyV (itV s0 0)).take 32),#[.slice a_n (((keyV (itV s0 0)).drop 32).length) c_n]] 0 kj 0 _ rfl) kj)) ?_
 refine Qa8 (Qas _) (.agg (cat [ints .u8 (grp),#[.int .i64 0],#[.int .i64 0],#[.int .i64 0],#[.slice none 0 0]])) kj kj (fun W=>(Qfy 35 _ (.agg (cat [ints .u8 (zao 32 0),#[.int .i64 0],#[.int .i64 0],#[.int .i64 0],#[.slice none 0 0]])) #[(0,32),(32,1),(33,1),(34,1),(35,1)] 0 [] (cat [ints .u8 (zao 32 0),#[.int .i64 0],#[.int .i64 0],#[.int .i64 0],#[.slice none 0 0]]) [(0,32,.agg (ints .u8 (grp)),ints .u8 (grp)),(1,1,.int .i64 0,#[.int .i64 0]),(2,1,.int .i64 0,#[.int .i64 0]),(3,1,.int .i64 0,#[.int .i64 0])] [#[.slice none 0 0]] rfl kj rfl ⟨kj,rfl,((Qat _ _).trans hgl),kj,rfl,kj,kj,rfl,kj,kj,rfl,kj,trivial⟩ kj (Nat.le_of_ble_eq_true kj) kj kj kj kj)) ?_
 refine Qmk (Qas _) (cat [ints .u8 (zao 32 0),#[.int .i64 0],#[.int .i64 0],#[.int .i64 0],#[.slice none 0 0]]) 35 (NewP.stable _ _ _) kj kj (fun W=>by kernel_rfl) ?_
 refine QcO (hF _ fun W5 e5=>?_)
 simp only [za0,zaF,zaB,zaC,zaD,zaE,finE,up]
 intro vv21 hv21
 clear hF
 have x5:ExtB g10 W4 W5:=ExtB.ext (zbv g10 W4) e5
 obtain ⟨g21,rfl,l21,r21_5⟩:=hv21
 have b21:W4.heap.size≤g21:=qT (zbv g10 W4).2.2.2.1 l21
 refine Qan g21 _ (cat [ints .u8 (grp),#[.int .i64 0],#[.int .i64 0],#[.int .i64 0],#[.slice none 0 0]]) 35 r21_5 rfl kj (Qao 35 _ _ g21 35 _ _ r21_5 rfl kj kj (isz (n:=36) kj (by rw [Qac,Qac,Qac,Qac,Qac]; simp only [qS,cat,((Qat _ _).trans hgl)]; rfl)) (eqsz (n:=36) (by rw [Qac,Qac,Qac,Qac,Qac]; simp only [qS,cat,((Qat _ _).trans (qZ (n:=32)))]; rfl) (by rw [Qac,Qac,Qac,Qac,Qac]; simp only [qS,cat,((Qat _ _).trans hgl)]; rfl)) (Qbn _ (by intro a ha; simp only [za7,zan,or_false] at ha; rcases ha with rfl | rfl | rfl | rfl | rfl; exact (Qay _ _); exact (Qa6 _ rfl); exact (Qa6 _ rfl); exact (Qa6 _ rfl); exact (Qa6 _ rfl)))) fun W6 p6 r21_6=>?_
 have x6:ExtB g10 W4 W6:=ExtB.putsN x5 p6 b21
 refine Qal ?_
 refine hK20 _ _ ?_
 refine wp_seq_k fun K22 hK22=>?_
 refine Wk.any_regionEZ 8 [⟨none,[(7,none)]⟩,⟨none,[(53,some 0)]⟩,⟨none,[(7,none)]⟩,⟨none,[(55,some 2)]⟩,⟨none,[(9,none)]⟩,⟨none,[(57,some 4)]⟩,⟨none,[(1,none)]⟩,⟨none,[(54,some 1),(56,some 3),(58,some 5),(59,some 6)]⟩] kj kj fun F hF=>?_
 refine Qa8 (Qas _) (.pointer (some ⟨g7,1,none⟩)) kj kj (fun W=>by kernel_rfl) ?_
 have r17_5:=(Qaa r7_4 e5)
 have r17_6:=(zbt p6 r17_5 (Qag r7_4 l21))
 refine Qbc (Qas _) (.agg (ints .u8 ((keyV (itV s0 0)).take 32))) kj kj (fun W hR=>(Qa0 58 _ g7 1 60 _ _ _ (Qaa (Qaa r17_6 (Qaj _)) hR) rfl kj (Qam [#[.int .i64 0]] [ints .u8 ((keyV (itV s0 0)).take 32)] [#[.slice a_n (((keyV (itV s0 0)).drop 32).length) c_n]] 1 kj) kj (isz (n:=32) kj ((Qat _ _).trans (QaX (QaI _)))))) ?_
 refine Qa8 (Qas _) (.pointer (some ⟨g7,33,none⟩)) kj kj (fun W=>by kernel_rfl) ?_
 refine Qbc (Qas _) (.slice a_n (((keyV (itV s0 0)).drop 32).length) c_n) kj kj (fun W hR=>(Qad 33 _ g7 33 60 _ (.slice a_n (((keyV (itV s0 0)).drop 32).length) c_n) _ (Qaa (Qaa r17_6 (Qaj _)) hR) rfl kj (Qam [#[.int .i64 0],ints .u8 ((keyV (itV s0 0)).take 32)] [#[.slice a_n (((keyV (itV s0 0)).drop 32).length) c_n]] [] 33 (by rw [Qac,Qac]; simp only [qS,cat,((Qat _ _).trans (QaX (QaI _)))]; rfl) 0 _ rfl) kj)) ?_
 refine Qbc (Qas _) (.agg (cat [ints .u8 (grp),#[.int .i64 0],#[.int .i64 0],#[.int .i64 0],#[.slice none 0 0]])) kj kj (fun W hR=>(Qap 35 _ g21 35 _ _ (Qaa (Qaa r21_6 (Qaj _)) hR) rfl kj kj (isz (n:=36) kj (by rw [Qac,Qac,Qac,Qac,Qac]; simp only [qS,cat,((Qat _ _).trans hgl)]; rfl)))) ?_
 refine QdP (Qas _) (OwnN .u8 5 W6.heap.size (grp++[0,0,0,0]++[0]++[0,0,0,0])) (OwnN.stable _ _ _ _) 21 #[.agg (cat [ints .u8 (grp),#[.int .i64 0],#[.int .i64 0],#[.int .i64 0],#[.slice none 0 0]])] kj kj (fun W=>by kernel_rfl) (fun W hR=>((QgS grp hgl _ _ _ _).mono fun e W2 hg=>by obtain ⟨v2,e1,e2,e3⟩:=hg; exact ⟨v2,e1,e2,zby (zbs (Qaj _) hR).size e3⟩)) ?_
 refine Qa8 (Qas _) (.slice a_t text.length c_t) kj kj (fun W=>by kernel_rfl) ?_
 have f24_5:=(hu2.ext e5)
 have f25_6:=(f24_5.puts p6 (nb_new hu2 l21))
 have r8_5:=(Qaa rk8 e5)
 have r8_6:=(zbt p6 r8_5 (Qag rk8 l21))
 have r7_5:=(Qaa rk7 e5)
 have r7_6:=(zbt p6 r7_5 (Qag rk7 l21))
 refine QeO (Qas _) (MixR W6.heap.size fs) (Qdf _ _) 20 (fun ρ W hR hX=>?_) ?_
 ·skip
  have e54_:ρ 54=.agg (ints .u8 ((keyV (itV s0 0)).take 32)):=hX.1
  have e56_:ρ 56=.slice a_n (((keyV (itV s0 0)).drop 32).length) c_n:=hX.2.1
  have q58_:(OwnN .u8 5 W6.heap.size (grp++[0,0,0,0]++[0]++[0,0,0,0])) (ρ 58) W:=hX.2.2.1
  obtain ⟨ar58,cr58,e58_,-⟩:=id (zbz q58_)
  have rd58_:=zbz q58_
  rw [e58_] at rd58_
  have e59_:ρ 59=.slice a_t text.length c_t:=hX.2.2.2.1
  refine ⟨#[.agg (ints .u8 ((keyV (itV s0 0)).take 32)),.slice a_n (((keyV (itV s0 0)).drop 32).length) c_n,.slice ar58 ((grp++[0,0,0,0]++[0]++[0,0,0,0]).length) cr58,.slice a_t text.length c_t],Eq.trans (b:=Result.ok (Next.enter 20 #[ρ 54,ρ 56,ρ 58,ρ 59]) W) kj (by rw [e54_,e56_,e58_,e59_]),?_⟩
  exact ((Qmo ((keyV (itV s0 0)).take 32) ((keyV (itV s0 0)).drop 32) (grp++[0,0,0,0]++[0]++[0,0,0,0]) text _ _ _ _ _ _ th tr W (Qaa (Qaa r8_6 (Qaj _)) hR) (Qaa (Qaa r7_6 (Qaj _)) hR) (QaX (QaI _)) (RdK.ext (zbz f25_6) (zbs (Qaj _) hR)) rd58_ (RdK.ext (hst _ (Qaf.but hKw x6 (.inr b10))) (zbs (Qaj _) hR)) hctxb hnl (by simp [hgl]) (by omega)).mono fun e W2 hg=>by obtain ⟨v2,e1,e2,u,e3,e4⟩:=hg; rw [es] at e4; exact ⟨v2,e1,e2,u,e3,e4.base (zbs (Qaj _) hR).size⟩)
 refine QcO (hF _ fun W7 e7=>?_)
 simp only [za0,zaF,zaB,zaC,zaD,zaE,finE,up]
 intro vv23 hv23 vv26 hv26
 clear hF
 have x7:ExtB g10 W4 W7:=ExtB.ext x6 e7
 obtain ⟨a27_,c27_,rfl,-⟩:=id (zbz hv23)
 obtain ⟨uu28,rfl,huu28⟩:=hv26
 obtain ⟨au28,cu28,rfl,-⟩:=id (zbz huu28)
 refine (show Wk.WZ _ _ _ 6 #[true,true,true,true,true,true,true,true,false,false,false,false,false,false] _ _ from ?_)
 refine Wk.wz_val 8 (.tuple #[.slice au28 ((fs).length) cu28,.nilIface]) 52 rfl rfl kj kj (fun _ _ _ h=>h) (fun W=>by kernel_rfl) ?_
 refine Wk.wz_val 9 (.slice au28 ((fs).length) cu28) 61 rfl rfl kj kj (fun _ _ _ h=>h) (fun W=>by kernel_rfl) ?_
 refine Wk.wz_val 10 (.nilIface) 62 rfl rfl kj kj (fun _ _ _ h=>h) (fun W=>by kernel_rfl) ?_
 refine Wk.wz_val 11 (.pointer (some ⟨g21,35,none⟩)) 63 rfl rfl kj kj (fun _ _ _ h=>h) (fun W=>by kernel_rfl) ?_
 have r21_7:=(Qaa r21_6 e7)
 refine Wk.wz_store 12 g21 _ (cat [ints .u8 (grp),#[.int .i64 0],#[.int .i64 0],#[.int .i64 0],#[.slice au28 ((fs).length) cu28]]) 35 r21_7 kj rfl rfl kj (run_storeQ 33 _ _ g21 35 35 [ints .u8 (grp),#[.int .i64 0],#[.int .i64 0],#[.int .i64 0]] [] _ (.slice au28 ((fs).length) cu28) r21_7 rfl kj kj kj (by rw [Qac,Qac,Qac,Qac]; simp only [qS,cat,((Qat _ _).trans hgl)]; rfl) rfl rfl) fun W8 p8 r21_8=>?_
 have x8:ExtB g10 W4 W8:=ExtB.putsN x7 p8 b21
 refine Wk.wz_val 13 (.nilIface) 8 rfl rfl kj kj (fun _ _ _ h=>h) (fun W=>by kernel_rfl) ?_
 refine Wk.wz_nil kj ?_
 refine hK22 _ _ ?_
 refine wp_seq_k fun K29 hK29=>?_
 refine wp_seq_k fun K30 hK30=>?_
 refine Qae ?_
 refine Qab (.nilIface) 64 rfl kj kj ?_
 refine Qab (.bool false) 65 rfl kj kj ?_
 refine Qal ?_
 refine hK30 _ _ ?_
 refine cond_false kj ?_
 refine wp_skip ?_
 refine hK29 _ _ ?_
 refine wp_seq_k fun K31 hK31=>?_
 refine Qae ?_
 refine Qab (.agg (cat [ints .u8 (grp),#[.int .i64 0],#[.int .i64 0],#[.int .i64 0],#[.slice au28 ((fs).length) cu28]])) 68 rfl kj (Qap 35 _ g21 35 _ _ r21_8 rfl kj kj (isz (n:=36) kj (by rw [Qac,Qac,Qac,Qac,Qac]; simp only [qS,cat,((Qat _ _).trans hgl)]; rfl))) ?_
 have r10_5:=(Qaa rk10 e5)
 have r10_6:=(zbt p6 r10_5 (Qag rk10 l21))
 have r10_7:=(Qaa r10_6 e7)
 have r10_8:=(zbt p8 r10_7 (Qag rk10 l21))
 refine Qan g10 _ (cat [ints .u8 (grp),#[.int .i64 0],#[.int .i64 0],#[.int .i64 0],#[.slice au28 ((fs).length) cu28]]) 35 r10_8 rfl kj (Qao 35 _ _ g10 35 _ _ r10_8 rfl kj kj (isz (n:=36) kj (by rw [Qac,Qac,Qac,Qac,Qac]; simp only [qS,cat,((Qat _ _).trans hgl)]; rfl)) (eqsz (n:=36) (by rw [Qac,Qac,Qac,Qac,Qac]; simp only [qS,cat,((Qat _ _).trans (qZ (n:=32)))]; rfl) (by rw [Qac,Qac,Qac,Qac,Qac]; simp only [qS,cat,((Qat _ _).trans hgl)]; rfl)) (Qbn _ (by intro a ha; simp only [za7,zan,or_false] at ha; rcases ha with rfl | rfl | rfl | rfl | rfl; exact (Qay _ _); exact (Qa6 _ rfl); exact (Qa6 _ rfl); exact (Qa6 _ rfl); exact (Qa6 _ rfl)))) fun W9 p9 r10_9=>?_
 have x9:ExtB g10 W4 W9:=zbw x8 p9
 refine Qab (.nilIface) 5 rfl kj kj ?_
 refine Qal ?_
 refine hK31 _ _ ?_
 refine wp_ret ?_
 have f32_8:=(huu28.puts p8 (QbP huu28 (Qaq r21_6)))
 have f33_9:=(f32_8.puts p9 (QbP huu28 (Qaq r10_6)))
 exact (show bodyPost _ _ _ .ret _ _ from ret2 (.agg (cat [ints .u8 (grp),#[.int .i64 0],#[.int .i64 0],#[.int .i64 0],#[.slice au28 ((fs).length) cu28]])) (.nilIface) rfl (QaP g10 35 _ r10_9 kj kj (isz (n:=36) kj (by rw [Qac,Qac,Qac,Qac,Qac]; simp only [qS,cat,((Qat _ _).trans hgl)]; rfl))) (Qaz kj) ⟨_,rfl,Qaf.but hKw x9 (.inr b10),hch3.keep (x9.2.2.2.2 cg hch3.glt (zaz (qL hch.glt b10))) (x9.2.2.2.2 cm hch3.mp.lt (zaz (qL hch.mp.lt b10))),zby (qT hKw.size x6.2.2.2.1) f33_9⟩)
end Pk
end
end Go.Proofs.YtioglfpngaddfaaDoor
