/- Texts of this claim, joined (ME0). -/
import Derived.Still
import Derived.StillTail
import Derived.Tactics
import Derived.Tactics2
import Derived.KernelRfl
import Derived.Below
import Derived.Laws.NewBlocks
import Derived.WalkKit
import Derived.ProofKit
import Derived.OpenShut
import Derived.Handy
import Derived.Laws.BitsAll
import Derived.Laws.BytesArg
import Derived.BigQuiet
import Derived.Lib.Hide
import Derived.Lib.Strings
import Derived.ChangeKeysEq
import Derived.Laws.Rows
import Derived.Laws.Tables
import Derived.RangeFuncNested
import Derived.RangeFuncBound
import Derived.RangeFuncCalls
import Derived.RangeFuncLeaves
import Derived.RangeFuncFrom
import Derived.Shelf.Abstract
import Derived.Shelf.RegionOpen
import Derived.OwnWalkIn
import Derived.TacticsInMore
import Derived.LoopNIn
import Derived.LoopIn
import Derived.MapKept
import Derived.Laws.ResultCell
import Derived.IntWalk
import Derived.Laws.MakeOwn
import Derived.LoopN
import Derived.Great.BuildSlice
import Derived.Maps.AppendAt
import Derived.ArgAppend
import Derived.Test.YthfkppjajmjpnaaDoorProg
import Derived.Laws.CopyRow
import Derived.Laws.IdiomCopy
import Derived.Laws.OwnMore
import Derived.Scope
import Derived.Test.YthfkppjajmjpnaaDoorRows
import Derived.Lib.TrailingZeros
import Derived.Laws.Bits64b
import Derived.Lib.AppendZeros

set_option linter.unusedVariables false
set_option linter.unusedSimpArgs false
set_option maxHeartbeats 4000000
section
namespace Go.Proofs.YthfkppjajmjpnaaDoor
theorem qT {n m k : Nat} (h : n ≤ m) (l : m ≤ k) : n ≤ k := Nat.le_trans h l
theorem qL {n m k : Nat} (h : n < m) (l : m ≤ k) : n < k := Nat.lt_of_lt_of_le h l
theorem qE {n m : Nat} (h : n = m) : n ≤ m := Nat.le_of_eq h
theorem qR (n : Nat) : n ≤ n := Nat.le_refl n
theorem qS {α : Type _} {xs ys : Array α} : (xs ++ ys).size = xs.size + ys.size := Array.size_append
theorem qZ {α : Type _} {n : Nat} {a : α} : (List.replicate n a).length = n := List.length_replicate
end Go.Proofs.YthfkppjajmjpnaaDoor
section
namespace Go.Proofs.YthfkppjajmjpnaaDoor.Rely
open Go
theorem kj {p : Prop} (h:p:=by kernel_rfl):p:=h
def Qha (acc : Array Nat) (o:Oper):Nat :=
  o.after.toList.foldl (fun s e=>if Region.binds .any e then s|||2^e.on|||acc.getD e.on 0 else s) 0
def masks : List Oper→Array Nat→Array Nat
  | [],acc=>acc
  | o::l,acc=>masks l (acc.push (Qha acc o))
theorem QgE (acc : Array Nat) (i:Nat):∀ (es:List Edge) (s:Nat),
    (es.foldl (fun s e=>if Region.binds .any e then s|||2^e.on|||acc.getD e.on 0 else s) s).testBit i=true →
    s.testBit i=true∨∃ e∈es,Region.binds .any e=true∧(e.on=i∨(acc.getD e.on 0).testBit i=true)
  | [],s,h=>.inl h
  | e::es,s,h=>by
    rw [List.foldl_cons] at h
    rcases QgE acc i es _ h with h | ⟨e',h1,h2⟩
    · by_cases hb:Region.binds .any e=true
      · rw [if_pos hb,Nat.testBit_or,Nat.testBit_or,Bool.or_eq_true,Bool.or_eq_true] at h
        rcases h with (h | h) | h
        · exact .inl h
        · rw [Nat.testBit_two_pow] at h
          exact .inr ⟨e,List.mem_cons_self,hb,.inl (of_decide_eq_true h)⟩
        · exact .inr ⟨e,List.mem_cons_self,hb,.inr h⟩
      · rw [if_neg hb] at h
        exact .inl h
    · exact .inr ⟨e',List.mem_cons_of_mem _ h1,h2⟩
def Qcm (ops : Array Oper) (listed:Array Bool):Prop :=
  ∀ j o,ops[j]? = some o→listed.getD j false=true→∀ e∈o.after,Region.binds .any e=true→listed.getD e.on false=true
def Anc (ops : Array Oper) (i j:Nat):Prop :=
  ∀ listed,Qcm ops listed→(∀ o,ops[j]? = some o→∀ e∈o.after,Region.binds .any e=true→listed.getD e.on false=true)→listed.getD i false=true
theorem QcA (ops : Array Oper):∀ (l:List Oper) (acc:Array Nat),(∀ j,l[j]? = ops[acc.size+j]?) →
    (∀ j i,(acc.getD j 0).testBit i=true→Anc ops i j)→∀ j i,((masks l acc).getD j 0).testBit i=true→Anc ops i j
  | [],acc,_,h=>h
  | o::l,acc,hl,h=>by
    refine QcA ops l (acc.push (Qha acc o)) (fun j=>?_) (fun j i hj=>?_)
    · have:=hl (j+1)
      simp only [List.getElem?_cons_succ] at this
      rw [this,Array.size_push]
      congr 1
      omega
    · have ho:ops[acc.size]? = some o:=by have:=hl 0; simpa using this.symm
      rcases Nat.lt_trichotomy j acc.size with hlt | heq | hgt
      · refine h j i ?_
        have e:(acc.push (Qha acc o)).getD j 0=acc.getD j 0:=by
          simp [Array.getElem?_push,Nat.ne_of_lt hlt]
        rw [←e]; exact hj
      · subst heq
        have e:(acc.push (Qha acc o)).getD acc.size 0=Qha acc o:=by simp
        rw [e] at hj
        rcases QgE acc i _ _ hj with h0 | ⟨ed,hm,hb,hon⟩
        · simp at h0
        · rcases hon with rfl | hon
          · exact fun listed _ hall=>hall o ho _ (Array.mem_toList_iff.1 hm) hb
          · exact fun listed hc hall=>h _ _ hon listed hc fun o' ho' e' he' hb'=>hc _ o' ho' (hall o ho _ (Array.mem_toList_iff.1 hm) hb) e' he' hb'
      · have e:(acc.push (Qha acc o)).getD j 0=0:=by
          simp [Array.getElem?_push,Nat.ne_of_gt hgt,Array.getElem?_eq_none (Nat.le_of_lt hgt)]
        rw [e] at hj
        simp at hj
theorem Qcm.anc {ops : Array Oper} {listed:Array Bool} (hc:Qcm ops listed) {i j:Nat} (h:Anc ops i j) (hj:listed.getD j false=true):listed.getD i false=true :=
  h listed hc fun o ho e he hb=>hc j o ho hj e he hb
theorem Qb5 {ops : Array Oper} {listed:Array Bool} (hc:Qcm ops listed) {i j:Nat} (hj:j∈Region.ready .any ops listed) (h:Anc ops i j):listed.getD i false=true:=by
  obtain ⟨_,o,ho,hall⟩:=mem_ready.1 hj
  refine h listed hc fun o' ho' e he hb=>?_
  obtain rfl:o=o':=Option.some.inj (ho.symm.trans ho')
  exact hall e he hb
theorem Qcm.set {ops : Array Oper} {listed:Array Bool} (hc:Qcm ops listed) {i:Nat} (hi:i∈Region.ready .any ops listed):Qcm ops (listed.setIfInBounds i true):=by
  intro j o ho hj e he hb
  obtain ⟨_,oi,hoi,hall⟩:=mem_ready.1 hi
  by_cases hij:i=j
  · subst hij
    obtain rfl:oi=o:=Option.some.inj (hoi.symm.trans ho)
    exact getD_set_true (hall e he hb)
  · rw [getD_set_ne false hij] at hj
    exact getD_set_true (hc j o ho hj e he hb)
abbrev Fact := Value → World → Prop
structure Srq where
  guard:Option (Tmp×Bool)
  reads:List (Tmp×Option Nat)
def Qd4 (ops : Array Oper) (o:Oper):Option (Option (Tmp×Bool)) :=
  match o.guard with
  | none=>some none
  | some (j,b)=>match (ops[j]?).bind (·.dst) with | some d=>some (some (d,b)) | none=>none
def QdB (l : List Oper) (M:Array Nat) (j:Nat):Tmp×Option Nat→Bool
  | (t,some i)=>decide (i<j)&&(M.getD j 0).testBit i&&((l[i]?).bind (·.dst)==some t)
  | (t,none)=>l.zipIdx.all fun (o,i)=>o.dst != some t || (M.getD i 0).testBit j || i==j
def Qhx (l : List Oper) (M:Array Nat) (j:Nat) (o:Oper) (s:Srq):Bool :=
  (Qd4 l.toArray o==some s.guard)&&s.reads.all (QdB l M j)
def Qdg (l : List Oper) (M:Array Nat):Nat→List Oper→List Srq→Bool
  | j,o::os,s::ss=>Qhx l M j o s&&Qdg l M (j+1) os ss
  | _,[],[]=>true
  | _,_,_=>false
def QdG (N : Nat):List Oper→Bool
  | []=>true
  | o::l=>(match o.dst with | some d=>decide (d<N)&&l.all (·.dst != some d) | none=>true)&&QdG N l
def QcY : Nat→List Oper→Bool
  | _,[]=>true
  | j,o::l=>o.after.toList.all (fun e=>!Region.binds .any e || decide (e.on<j))&&QcY (j+1) l
def Qhv (M : Array Nat) (n len:Nat):Bool :=
  (List.range len).all fun j=>decide (j<n) || (List.range j).all fun i=>(M.getD j 0).testBit i
def ok (l : List Oper) (n N:Nat) (S:List Srq):Bool :=
  let M:=masks l #[]
  decide (n≤l.length)&&Qdg l M 0 (l.take n) S&&QdG N (l.take n)&&QcY 0 l&&Qhv M n l.length &&
  (l.drop n).all (fun o=>match o.dst with | some d=>(l.take n).all (·.dst != some d) | none=>true)
def isB (b : Bool):Value→Bool
  | .bool c=>c==b
  | _=>false
def QfN (R : World→World→Prop) (W:World) (φ:Fact) (e:Ending) (W':World):Prop:=∃ v,e=.returned v∧R W W'∧φ v W'
def QcG (P : Program) (R:World→World→Prop) (W:World) (φ:Fact):Result Next→Prop
  | .ok (.value v) W'=>R W W'∧φ v W'
  | .ok .skip W'=>R W W'∧φ undef W'
  | .ok (.enter f args) W'=>R W W'∧Calls P f args W' (QfN R W' φ)
  | _=>False
def look (ρ : Tmp→Value):Operand→Value
  | .tmp t=>ρ t
  | .const v=>v
  | .global g=>.pointer (some ⟨g,0,none⟩)
  | .func f=>.func (.func f) #[] #[]
@[go_sem] theorem Qms (ρ : Tmp → Value) (t : Tmp) : look ρ (.tmp t) = ρ t := rfl
@[go_sem] theorem Qlz (ρ : Tmp → Value) (v : Value) : look ρ (.const v) = v := rfl
@[go_sem] theorem QkN (ρ : Tmp → Value) (g : Nat) : look ρ (.global g) = .pointer (some ⟨g, 0, none⟩) := rfl
@[go_sem] theorem QlW (ρ : Tmp → Value) (f : FuncId) : look ρ (.func f) = .func (.func f) #[] #[] := rfl
attribute [go_sem] QcG
def slots (a : Act):Tmp→Value:=fun t=>a.tmps.getD t undef
theorem Qet (a : Act):a.eval=look (slots a):=funext fun x=>by cases x <;> rfl
def Qeh (P : Program) (R:World→World→Prop) (o:Oper) (ρ:Tmp→Value) (W:World) (φ:Fact):Prop :=
  QcG P R W φ ((execOp (look ρ) o).run P W)
def Qc4 (r0 : Tmp→Value) (E:List Fact) (ρ:Tmp→Value) (W:World):List (Tmp×Option Nat)→Prop
  | []=>True
  | (t,none)::r=>ρ t=r0 t∧Qc4 r0 E ρ W r
  | (t,some i)::r=>(E.getD i fun _ _=>True) (ρ t) W∧Qc4 r0 E ρ W r
def gOk (g : Option (Tmp×Bool)) (ρ:Tmp→Value):Bool :=
  match g with
  | none=>true
  | some (d,b)=>isB b (ρ d)
def guarded (g : Option (Tmp×Bool)) (ρ:Tmp→Value) (p q:Prop):Prop :=
  match g with
  | none=>p
  | some (d,b)=>if isB b (ρ d)=true then p else q
def opOk (P : Program) (R:World→World→Prop) (w0:World) (r0:Tmp→Value) (E:List Fact) (o:Oper) (s:Srq) (φ:Fact):Prop :=
  ∀ (ρ:Tmp→Value) (W:World),R w0 W→Qc4 r0 E ρ W s.reads→guarded s.guard ρ (Qeh P R o ρ W φ) (φ undef W)
def Qb6 (R : World→World→Prop) (φ:Fact):Prop:=∀ v W W',R W W'→φ v W→φ v W'
def fin (Q : Act→World→Prop):List Oper→List Fact→Act→World→Prop
  | o::l,φ::E,a,W=>∀ v,φ v W→fin Q l E (a.put o.dst v) W
  | _,_,a,W=>Q a W
def relies (P : Program) (R:World→World→Prop) (w0:World) (r0:Tmp→Value) (F:List Fact→Prop):List Oper→List Srq→List Fact→Prop
  | o::os,s::ss,E=>∃ φ,Qb6 R φ∧opOk P R w0 r0 E o s φ∧relies P R w0 r0 F os ss (E++[φ])
  | _,_,E=>F E
section
variable {P : Program} {R : World → World → Prop} {w0 : World} {r0 : Tmp → Value} {F : List Fact → Prop} {o : Oper} {os : List Oper} {s : Srq} {ss : List Srq} {E : List Fact}
def Ext (W W':World):Prop:=RowKit.Below W.heap.size W W'
theorem Ext.refl (W : World):Ext W W:=RowKit.Below.refl _ _
def Ret (W : World) (v:Value) (e:Ending) (W':World):Prop:=e=.returned v∧Ext W W'
theorem Ret.const {W W':World} {v:Value} {e:Ending} (h:Ret W v e W'):QfN Ext W (fun u _=>u=v) e W':=⟨v,h.1,h.2,rfl⟩
def QbK (W : World) (φ:Fact) (e:Ending) (W':World):Prop:=∃ v,e=.returned v∧Ext W W'∧φ v W'
theorem QbK.fact {W W':World} {φ:Fact} {e:Ending} (h:QbK W φ e W'):QfN Ext W φ e W':=h
theorem Ext.trans {a b c:World} (h:Ext a b) (k:Ext b c):Ext a c:=RowKit.Below.trans h (RowKit.Below.mono k h.size)
end
section
variable {P : Program} {R : World → World → Prop} {w0 : World} {r0 : Tmp → Value}
theorem Qc4.congr {E E':List Fact} {a:Tmp→Value} {W:World} {n:Nat} (hE:∀ i,i<n→E.getD i (fun _ _=>True)=E'.getD i (fun _ _=>True)) :
    ∀ (r:List (Tmp×Option Nat)),(∀ x∈r,∀ i,x.2=some i→i<n)→Qc4 r0 E a W r→Qc4 r0 E' a W r
  | [],_,_=>trivial
  | (t,none)::r,hr,h=>⟨h.1,Qc4.congr hE r (fun x hx=>hr x (List.mem_cons_of_mem _ hx)) h.2⟩
  | (t,some i)::r,hr,h=>by
    refine ⟨?_,Qc4.congr hE r (fun x hx=>hr x (List.mem_cons_of_mem _ hx)) h.2⟩
    have h1:=h.1
    rw [hE i (hr (t,some i) List.mem_cons_self i rfl)] at h1
    exact h1
theorem Qc7 {l : List Oper} {M:Array Nat} {F:List Fact→Prop}:∀ (os:List Oper) (ss:List Srq) (E:List Fact),relies P R w0 r0 F os ss E→Qdg l M E.length os ss=true→(∀ φ∈E,Qb6 R φ) →
    ∃ E':List Fact,E'.length=E.length+os.length∧(∀ i,i<E.length→E'.getD i (fun _ _=>True)=E.getD i (fun _ _=>True))∧(∀ φ∈E',Qb6 R φ) ∧
      (∀ j o s,os[j]? = some o→ss[j]? = some s→opOk P R w0 r0 E' o s (E'.getD (E.length+j) fun _ _=>True))∧F E'
  | [],[],E,h,_,hs=>⟨E,by simp,fun _ _=>rfl,hs,fun j o s h=>by simp at h,h⟩
  | [],s::ss,E,h,hok,hs=>by simp [Qdg] at hok
  | o::os,[],E,h,hok,hs=>by simp [Qdg] at hok
  | o::os,s::ss,E,h,hok,hs=>by
    obtain ⟨φ,hst,hop,hrest⟩:=h
    simp only [Qdg,Bool.and_eq_true] at hok
    obtain ⟨hok1,hok2⟩:=hok
    have hlen:(E++[φ]).length=E.length+1:=by simp
    obtain ⟨E',hl,hE,hS,hO,hF⟩:=Qc7 os ss (E++[φ]) hrest (by rw [hlen]; exact hok2) (fun ψ hψ=>by
      rcases List.mem_append.1 hψ with h | h
      · exact hs ψ h
      · rw [List.mem_singleton.1 h]; exact hst)
    have hE1:∀ i,i<E.length→E'.getD i (fun _ _=>True)=E.getD i (fun _ _=>True):=fun i hi=>by
      rw [hE i (by omega)]
      simp [List.getElem?_append,hi]
    refine ⟨E',by simp at hl ⊢; omega,hE1,hS,fun j oj sj hj hsj=>?_,hF⟩
    cases j with
    | zero =>
      simp only [List.getElem?_cons_zero,Option.some.injEq] at hj hsj
      subst hj; subst hsj
      have hφ:E'.getD E.length (fun _ _=>True)=φ:=by
        rw [hE E.length (by omega)]; simp
      rw [Nat.add_zero,hφ]
      intro a W hR hh
      refine hop a W hR (Qc4.congr hE1 _ (fun x hx i hi=>?_) hh)
      simp only [Qhx,Bool.and_eq_true] at hok1
      have:=List.all_eq_true.1 hok1.2 x hx
      obtain ⟨t,si⟩:=x
      simp only at hi
      subst hi
      simp only [QdB,Bool.and_eq_true,decide_eq_true_eq] at this
      exact this.1.1
    | succ j =>
      have:=hO j oj sj (by simpa using hj) (by simpa using hsj)
      rw [hlen,show E.length+1+j=E.length+(j+1) by omega] at this
      exact this
variable {a0 : Act}
structure Inv (R : World → World → Prop) (w0 : World) (a0 : Act) (ops : Array Oper) (E : List Fact) (n : Nat) (listed : Array Bool) (a : Act) (W : World) (vs : Nat → Value) : Prop where
  size:listed.size=ops.size
  closed:Qcm ops listed
  rel:R w0 W
  defers:a.defers=a0.defers
  asize:a.tmps.size=a0.tmps.size
  facts:∀ i,listed.getD i false=true→i<n→(E.getD i fun _ _=>True) (vs i) W
  vals:∀ i o d,listed.getD i false=true→i<n→ops[i]? = some o→o.dst=some d→a.tmps[d]? = some (vs i)
  rest:∀ t,(∀ i o,listed.getD i false=true→i<n→ops[i]? = some o→o.dst≠some t)→a.tmps[t]? = a0.tmps[t]?
  tail:∀ i,n≤i→listed.getD i false=false
def left (ops : Array Oper) (listed:Array Bool):Nat:=(List.range ops.size).countP fun i=>!listed.getD i true
theorem Qc2 (p q:Nat→Bool) (i:Nat) (hp:p i=true) (hq:q i=false) (he:∀ j,j≠i→p j=q j):∀ n,i<n→(List.range n).countP p=(List.range n).countP q+1
  | 0,h=>absurd h (Nat.not_lt_zero _)
  | n+1,h=>by
    rw [List.range_succ,List.countP_append,List.countP_append]
    by_cases hin:i=n
    · subst hin
      have:(List.range i).countP p=(List.range i).countP q:=List.countP_congr fun x hx=>by
        rw [he x (by have:=List.mem_range.1 hx; omega)]
      rw [this]
      simp [hp,hq]
    · have:=Qc2 p q i hp hq he n (by omega)
      rw [this]
      simp only [List.countP_singleton,he n (fun h=>hin h.symm)]
      omega
theorem Qg2 {ops : Array Oper} {listed:Array Bool} {i:Nat} (hi:listed.getD i true=false) (hs:listed.size=ops.size):left ops listed=left ops (listed.setIfInBounds i true)+1:=by
  have hlt:i<listed.size:=by
    rcases Nat.lt_or_ge i listed.size with h | h
    · exact h
    · simp [Array.getElem?_eq_none h] at hi
  refine Qc2 _ _ i (by simp only [hi,Bool.not_false]) ?_ (fun j hj=>?_) _ (by omega)
  · simp [Array.getElem?_setIfInBounds_self_of_lt hlt]
  · rw [getD_set_ne true (Ne.symm hj)]
theorem Qjt {l : List Oper}:∀ (k:Nat),QcY k l=true→∀ j o e,l[j]? = some o→e∈o.after→Region.binds .any e=true→e.on<k+j:=by
  induction l with
  | nil=>intro k _ j o e h; simp at h
  | cons x l ih =>
    intro k h j o e hj he hb
    simp only [QcY,Bool.and_eq_true] at h
    cases j with
    | zero =>
      simp only [List.getElem?_cons_zero,Option.some.injEq] at hj
      subst hj
      have:=List.all_eq_true.1 h.1 e (Array.mem_toList_iff.2 he)
      simpa [hb] using this
    | succ j =>
      have:=ih (k+1) h.2 j o e (by simpa using hj) he hb
      omega
theorem QbP {l : List Oper} (he:QcY 0 l=true) {listed:Array Bool}:∀ i,i<l.length→listed.getD i true=false→∃ j,j∈Region.ready .any l.toArray listed:=by
  intro i
  induction i using Nat.strongRecOn with
  | _ i ih =>
    intro hi hun
    by_cases h:∃ k,k<i∧listed.getD k true=false
    · obtain ⟨k,hk,hk2⟩:=h
      exact ih k hk (by omega) hk2
    · refine ⟨i,mem_ready.2 ⟨hun,l[i],by simp [hi],fun e hm hb=>?_⟩⟩
      have hlt:=Qjt 0 he i l[i] e (by simp [hi]) hm hb
      cases hx:listed.getD e.on false with
      | true=>rfl
      | false =>
        exfalso
        refine h ⟨e.on,by omega,?_⟩
        have hil:i<listed.size:=by
          rcases Nat.lt_or_ge i listed.size with h | h
          · exact h
          · simp [Array.getElem?_eq_none h] at hun
        exact getD_in (by omega) hx
theorem Qg3 {ops : Array Oper} {listed:Array Bool} {i:Nat} (hi:i<ops.size) (h:listed.getD i true=false):0<left ops listed :=
  List.countP_pos_iff.2 ⟨i,List.mem_range.2 hi,by simp only [h,Bool.not_false]⟩
theorem Qez {ops : Array Oper} {Q:Exit→Act→World→Prop} {i:Nat} {o:Oper} {K:Act→World→Prop} {a:Act} {w:World} (ho:ops[i]? = some o)
    (h:if Region.wanted o (yielded ops a.tmps) then o.wp P a w K Q else K (a.put o.dst undef) w):wpOp P ops Q i K a w:=by
  unfold wpOp
  rw [ho]
  simp only
  split at h
  · rename_i hw; rw [if_pos hw]; exact .inl h
  · rename_i hw; rw [if_neg hw]; exact h
theorem QhC {o : Oper} {a:Act} {W:World} {φ:Fact} {K:Act→World→Prop} {Q:Exit→Act→World→Prop} (htr:∀ {a b c:World},R a b→R b c→R a c) (h:Qeh P R o (slots a) W φ)
    (hk:∀ v W',R W W'→φ v W'→K (a.put o.dst v) W'):o.wp P a W K Q:=by
  unfold Qeh at h
  rw [←Qet] at h
  unfold Oper.wp
  generalize (execOp a.eval o).run P W=r at *
  cases r with
  | halt x w=>exact h.elim
  | ok n W1 =>
    cases n <;> simp only [QcG] at h <;> try exact h.elim
    case value v=>exact hk v W1 h.1 h.2
    case skip=>exact hk undef W1 h.1 h.2
    case enter f args =>
      obtain ⟨h1,h2⟩:=h
      refine Calls.mono h2 fun e W2 ⟨v,he,hr,hp⟩=>?_
      subst he
      exact hk v W2 (htr h1 hr) hp
theorem Qc6 {ops : Array Oper} {o:Oper} {a:Act} {g:Option (Tmp×Bool)} (hg:Qd4 ops o=some g) :
    Region.wanted o (yielded ops a.tmps)=gOk g (slots a):=by
  unfold gOk
  unfold Qd4 at hg
  unfold Region.wanted
  cases hgo:o.guard with
  | none =>
    simp only [hgo,Option.some.injEq] at hg
    subst hg; rfl
  | some jb =>
    obtain ⟨j,b⟩:=jb
    simp only [hgo] at hg
    cases hd:(ops[j]?).bind (·.dst) with
    | none=>simp only [hd] at hg; cases hg
    | some d =>
      simp only [hd,Option.some.injEq] at hg
      subst hg
      simp only [yielded,hd,Option.bind_some,slots]
      cases ht:a.tmps[d]? with
      | none=>simp [ht,undef,isB]
      | some v =>
        cases v <;> simp [ht,isB]
end
def Qbo : List Oper→(Nat→Value)→Nat→Act→Act
  | [],_,_,a=>a
  | o::os,vs,k,a=>Qbo os vs (k+1) (a.put o.dst (vs k))
theorem QdR (a : Act) (d:Option Tmp) (v:Value):(a.put d v).tmps.size=a.tmps.size:=by cases d <;> simp [Act.put]
theorem put_defers (a : Act) (d:Option Tmp) (v:Value):(a.put d v).defers=a.defers:=by cases d <;> rfl
theorem Qcg (a : Act) (d:Option Tmp) (v:Value) (t:Nat) (h:d≠some t):(a.put d v).tmps[t]? = a.tmps[t]?:=by
  cases d with
  | none=>rfl
  | some d=>simp only [Act.put]; rw [Array.getElem?_setIfInBounds_ne (fun e=>h (by rw [e]))]
theorem Qdy (a : Act) (t:Nat) (v:Value) (h:t<a.tmps.size):(a.put (some t) v).tmps[t]? = some v:=by
  simp only [Act.put]; rw [Array.getElem?_setIfInBounds_self_of_lt h]
theorem Qcv : ∀ (os:List Oper) (vs:Nat→Value) (k:Nat) (a:Act),(Qbo os vs k a).tmps.size=a.tmps.size∧(Qbo os vs k a).defers=a.defers
  | [],_,_,_=>⟨rfl,rfl⟩
  | o::os,vs,k,a=>by
    have:=Qcv os vs (k+1) (a.put o.dst (vs k))
    exact ⟨this.1.trans (QdR _ _ _),this.2.trans (put_defers _ _ _)⟩
theorem QbQ : ∀ (os:List Oper) (vs:Nat→Value) (k:Nat) (a:Act) (t:Nat),(∀ o∈os,o.dst≠some t)→(Qbo os vs k a).tmps[t]? = a.tmps[t]?
  | [],_,_,_,_,_=>rfl
  | o::os,vs,k,a,t,h=>by
    show (Qbo os vs (k+1) (a.put o.dst (vs k))).tmps[t]? = _
    rw [QbQ os vs (k+1) _ t (fun o' ho'=>h o' (List.mem_cons_of_mem _ ho')),Qcg _ _ _ _ (h o List.mem_cons_self)]
theorem Qcu {N : Nat}:∀ (os:List Oper) (vs:Nat→Value) (k:Nat) (a:Act) (t i:Nat) (o:Oper),QdG N os=true→a.tmps.size=N→os[i]? = some o→o.dst=some t→(Qbo os vs k a).tmps[t]? = some (vs (k+i))
  | [],_,_,_,_,_,_,_,_,h,_=>by simp at h
  | x::os,vs,k,a,t,i,o,hd,hN,hi,ho=>by
    simp only [QdG,Bool.and_eq_true] at hd
    show (Qbo os vs (k+1) (a.put x.dst (vs k))).tmps[t]? = _
    cases i with
    | zero =>
      simp only [List.getElem?_cons_zero,Option.some.injEq] at hi
      subst hi
      have h1:=hd.1
      rw [ho] at h1
      simp only [Bool.and_eq_true,decide_eq_true_eq] at h1
      have hlt0:t<N:=h1.1
      have hlt:t<a.tmps.size:=by omega
      rw [QbQ os vs (k+1) _ t (fun o' ho' he=>by
        have:=List.all_eq_true.1 h1.2 o' ho'
        rw [he] at this
        simp at this),ho,Qdy _ _ _ hlt]
      rfl
    | succ i =>
      have:=Qcu os vs (k+1) (a.put x.dst (vs k)) t i o hd.2 (by rw [QdR]; exact hN) (by simpa using hi) ho
      rw [this]
      congr 2
      omega
theorem Qgd {Q : Act→World→Prop} {W:World}:∀ (os:List Oper) (E:List Fact) (a:Act) (vs:Nat→Value) (k:Nat),fin Q os E a W→E.length=os.length →
    (∀ i,i<os.length→(E.getD i fun _ _=>True) (vs (k+i)) W)→Q (Qbo os vs k a) W
  | [],[],a,vs,k,h,_,_=>h
  | [],_::_,_,_,_,_,hl,_=>by simp at hl
  | _::_,[],_,_,_,_,hl,_=>by simp at hl
  | o::os,φ::E,a,vs,k,h,hl,hf=>by
    have h0:=hf 0 (by simp)
    refine Qgd os E (a.put o.dst (vs k)) vs (k+1) (h (vs k) (by simpa using h0)) (by simpa using hl) (fun i hi=>?_)
    have:=hf (i+1) (by simpa using hi)
    rw [show k+(i+1)=k+1+i by omega] at this
    simpa using this
theorem Qgf {N : Nat}:∀ (os:List Oper),QdG N os=true→∀ (i j:Nat) (x y:Oper) (d:Nat),os[i]? = some x→os[j]? = some y→i≠j→x.dst=some d→y.dst≠some d
  | [],_,_,_,_,_,_,h,_,_,_=>by simp at h
  | z::os,hd,i,j,x,y,d,hx,hy,hne,hxd=>by
    simp only [QdG,Bool.and_eq_true] at hd
    cases i with
    | zero =>
      simp only [List.getElem?_cons_zero,Option.some.injEq] at hx
      subst hx
      cases j with
      | zero=>exact absurd rfl hne
      | succ j =>
        have h1:=hd.1
        rw [hxd] at h1
        simp only [Bool.and_eq_true] at h1
        have:=List.all_eq_true.1 h1.2 y (List.mem_of_getElem? (by simpa using hy))
        intro he
        rw [he] at this
        simp at this
    | succ i =>
      cases j with
      | zero =>
        simp only [List.getElem?_cons_zero,Option.some.injEq] at hy
        subst hy
        intro he
        have h1:=hd.1
        rw [he] at h1
        simp only [Bool.and_eq_true] at h1
        have:=List.all_eq_true.1 h1.2 x (List.mem_of_getElem? (by simpa using hx))
        rw [hxd] at this
        simp at this
      | succ j=>exact Qgf os hd.2 i j x y d (by simpa using hx) (by simpa using hy) (by omega) hxd
theorem Qgg {N : Nat}:∀ (os:List Oper),QdG N os=true→∀ (i:Nat) (x:Oper) (d:Nat),os[i]? = some x→x.dst=some d→d<N
  | [],_,_,_,_,h,_=>by simp at h
  | z::os,hd,i,x,d,hx,hxd=>by
    simp only [QdG,Bool.and_eq_true] at hd
    cases i with
    | zero =>
      simp only [List.getElem?_cons_zero,Option.some.injEq] at hx
      subst hx
      have h1:=hd.1
      rw [hxd] at h1
      simp only [Bool.and_eq_true,decide_eq_true_eq] at h1
      exact h1.1
    | succ i=>exact Qgg os hd.2 i x d (by simpa using hx) hxd
theorem QeS {l : List Oper} {M:Array Nat}:∀ (os:List Oper) (ss:List Srq) (k:Nat),Qdg l M k os ss=true→∀ j o,os[j]? = some o→∃ s,ss[j]? = some s∧Qhx l M (k+j) o s=true
  | [],_,_,_,_,_,h=>by simp at h
  | _::_,[],_,h,_,_,_=>by simp [Qdg] at h
  | o::os,s::ss,k,h,j,oj,hj=>by
    simp only [Qdg,Bool.and_eq_true] at h
    cases j with
    | zero =>
      simp only [List.getElem?_cons_zero,Option.some.injEq] at hj
      subst hj
      exact ⟨s,rfl,h.1⟩
    | succ j =>
      obtain ⟨s',h1,h2⟩:=QeS os ss (k+1) h.2 j oj (by simpa using hj)
      exact ⟨s',by simpa using h1,by rw [show k+(j+1)=k+1+j by omega]; exact h2⟩
section
variable {P : Program} {R : World → World → Prop} {w0 : World} {a0 : Act}
theorem QaZ {listed : Array Bool} {i:Nat} (h:listed.getD i false=true):listed.getD i true=true:=by
  rcases Nat.lt_or_ge i listed.size with h' | h'
  · simp [h'] at h ⊢; exact h
  · simp [Array.getElem?_eq_none h'] at h
theorem QgO {l : List Oper} {n:Nat} {Q:Exit→Act→World→Prop} (hM:Qhv (masks l #[]) n l.length=true) (he:QcY 0 l=true) :
    ∀ (fuel m:Nat) (listed:Array Bool) (a:Act) (W:World),n≤m→m≤l.length→listed.size=l.length→Qcm l.toArray listed→(∀ i,i<m→listed.getD i false=true)→(∀ i,m≤i→listed.getD i false=false) →
      fuel=l.length-m→wpList P l.toArray Q (l.drop m) a W→wpAny P .any l.toArray Q fuel listed a W:=by
  have only:∀ (m:Nat) (listed:Array Bool),n≤m→Qcm l.toArray listed→(∀ i,i<m→listed.getD i false=true)→(∀ i,m≤i→listed.getD i false=false)→∀ j∈Region.ready .any l.toArray listed,j=m∧m<l.length:=by
    intro m listed hm hc h1 h2 j hj
    obtain ⟨hu,o,ho,_⟩:=mem_ready.1 hj
    have hjl:j<l.length:=by have:=(Array.getElem?_eq_some_iff.1 ho).1; simpa using this
    have hjm:m≤j:=by
      rcases Nat.lt_or_ge j m with h | h
      · have:=QaZ (h1 j h); rw [this] at hu; cases hu
      · exact h
    rcases Nat.eq_or_lt_of_le hjm with h | h
    · exact ⟨h.symm,by omega⟩
    · exfalso
      have h3:=List.all_eq_true.1 hM j (List.mem_range.2 hjl)
      simp only [Bool.or_eq_true,decide_eq_true_eq] at h3
      rcases h3 with h3 | h3
      · omega
      · have h4:=List.all_eq_true.1 h3 m (List.mem_range.2 h)
        have ha:=QcA l.toArray l #[] (fun j=>by simp) (fun j i h=>by simp at h) j m h4
        have:=Qb5 hc hj ha
        rw [h2 m (qR _)] at this
        cases this
  intro fuel
  induction fuel with
  | zero =>
    intro m listed a W hn hm hs hc h1 h2 hf h
    have hml:m=l.length:=by omega
    subst hml
    refine ⟨?_,by simpa [wpList] using h⟩
    cases hr:Region.ready .any l.toArray listed with
    | nil=>rfl
    | cons x xs=>have:=only _ listed hn hc h1 h2 x (by rw [hr]; exact List.mem_cons_self); omega
  | succ fuel ih =>
    intro m listed a W hn hm hs hc h1 h2 hf h
    have hml:m<l.length:=by omega
    obtain ⟨o,ho⟩:∃ o,l[m]? = some o:=⟨l[m],by simp [hml]⟩
    have hd:l.drop m=o::l.drop (m+1):=by
      rw [List.drop_eq_getElem_cons hml]
      congr 1
      exact Option.some.inj (by rw [←ho]; simp [hml])
    refine ⟨fun hr=>?_,fun j hj=>?_⟩
    · obtain ⟨j,hj⟩:=QbP he (listed:=listed) m hml (getD_in (by omega) (h2 m (qR _)))
      rw [hr] at hj; cases hj
    · obtain ⟨rfl,_⟩:=only m listed hn hc h1 h2 j hj
      rw [hd] at h
      have h':wpOp P l.toArray Q j (wpList P l.toArray Q (l.drop (j+1))) a W:=by
        unfold wpOp
        have:(l.toArray)[j]? = some o:=by simpa using ho
        rw [this]
        exact h
      refine wpOp_mono (fun a' W' h2'=>ih (j+1) _ a' W' (by omega) hml (by simp [hs]) (hc.set hj) (fun i hi=>?_) (fun i hi=>?_) (by omega) h2') h'
      · by_cases hij:j=i
        · subst hij; simp [Array.getElem?_setIfInBounds_self_of_lt (show j<listed.size by omega)]
        · rw [getD_set_ne false hij]; exact h1 i (by omega)
      · rw [getD_set_ne false (by omega)]; exact h2 i (by omega)
theorem QeL {l : List Oper} {n N:Nat} {S:List Srq} {E:List Fact} {Q:Exit→Act→World→Prop} (hok:ok l n N S=true) (hN:a0.tmps.size=N) (hrf:∀ a,R a a) (htr:∀ {a b c:World},R a b→R b c→R a c)
    (hE:E.length=(l.take n).length) (hst:∀ φ∈E,Qb6 R φ)
    (hop:∀ j o s,(l.take n)[j]? = some o→S[j]? = some s→opOk P R w0 (slots a0) E o s (E.getD j fun _ _=>True))
    (hfin:∀ W,R w0 W→fin (fun a W=>wpList P l.toArray Q (l.drop n) a W) (l.take n) E a0 W) :
    ∀ (fuel:Nat) (listed:Array Bool) (a:Act) (W:World) (vs:Nat→Value),Inv R w0 a0 l.toArray E n listed a W vs→fuel=left l.toArray listed→wpAny P .any l.toArray Q fuel listed a W:=by
  simp only [ok,Bool.and_eq_true,decide_eq_true_eq] at hok
  obtain ⟨⟨⟨⟨⟨hn,hsrc⟩,hdst⟩,hedge⟩,htail⟩,hdt⟩:=hok
  have hlen:(l.take n).length=n:=by simp [hn]
  have hget:∀ i,i<n→(l.take n)[i]? = l[i]?:=fun i hi=>by simp [hi]
  have hgd:∀ i,(E.getD i fun _ _=>True)=(fun _ _=>True)∨(E.getD i fun _ _=>True)∈E:=fun i=>by
    rcases Nat.lt_or_ge i E.length with h | h
    · right; simp [h]
    · left; simp [List.getElem?_eq_none h]
  have hstg:∀ i,Qb6 R (E.getD i fun _ _=>True):=fun i=>by
    rcases hgd i with h | h
    · rw [h]; exact fun _ _ _ _ _=>trivial
    · exact hst _ h
  have hanc:∀ j i,((masks l #[]).getD j 0).testBit i=true→Anc l.toArray i j:=QcA l.toArray l #[] (fun j=>by simp) (fun j i h=>by simp at h)
  have count:∀ (listed:Array Bool),(∀ i,i<n→listed.getD i true=true)→(∀ i,n≤i→i<l.length→listed.getD i true=false)→left l.toArray listed=l.length-n:=by
    intro listed h1 h2
    unfold left
    simp only [List.size_toArray]
    have:∀ m,m≤l.length→(List.range m).countP (fun i=>!listed.getD i true)=m-n:=by
      intro m
      induction m with
      | zero=>intro _; simp
      | succ m ih =>
        intro hm
        rw [List.range_succ,List.countP_append,ih (by omega),List.countP_singleton]
        by_cases hmn:m<n
        · simp only [h1 m hmn,Bool.not_true,Bool.false_eq_true,if_false]; omega
        · simp only [h2 m (by omega) (by omega),Bool.not_false,if_true]; omega
    exact this l.length (qR _)
  have done:∀ (fuel:Nat) (listed:Array Bool) (a:Act) (W:World) (vs:Nat→Value),Inv R w0 a0 l.toArray E n listed a W vs→fuel=left l.toArray listed→(∀ i,i<n→listed.getD i true=true)→wpAny P .any l.toArray Q fuel listed a W:=by
    intro fuel listed a W vs inv hf hall
    have hs:listed.size=l.length:=by simpa using inv.size
    have hall':∀ i,i<n→listed.getD i false=true:=fun i hi=>by
      cases hx:listed.getD i false with
      | true=>rfl
      | false=>have:=getD_in (by omega) hx; rw [hall i hi] at this; cases this
    refine QgO htail hedge fuel n listed a W (qR _) hn hs inv.closed hall' inv.tail (by rw [hf]; exact count listed hall (fun i h1 h2=>getD_in (by omega) (inv.tail i h1))) ?_
    have hq:=Qgd (l.take n) E a0 vs 0 (hfin W inv.rel) hE (fun i hi=>by
      rw [Nat.zero_add]
      exact inv.facts i (hall' i (by omega)) (by omega))
    have heq:Qbo (l.take n) vs 0 a0=a:=by
      have hsz:=Qcv (l.take n) vs 0 a0
      have ht:(Qbo (l.take n) vs 0 a0).tmps=a.tmps:=by
        refine Array.ext_getElem? fun t=>?_
        by_cases hw:∃ (i:Nat) (o:Oper),(l.take n)[i]? = some o∧o.dst=some t
        · obtain ⟨i,o,hi,ho⟩:=hw
          have hin:i<n:=by have:=(List.getElem?_eq_some_iff.1 hi).1; omega
          rw [Qcu (l.take n) vs 0 a0 t i o hdst hN hi ho,Nat.zero_add]
          exact (inv.vals i o t (hall' i hin) hin (by rw [hget i hin] at hi; simpa using hi) ho).symm
        · rw [QbQ (l.take n) vs 0 a0 t (fun o ho he=>by
            obtain ⟨i,hi⟩:=List.mem_iff_getElem?.1 ho
            exact hw ⟨i,o,hi,he⟩)]
          refine (inv.rest t fun i o _ hin hi he=>hw ⟨i,o,by rw [hget i hin]; simpa using hi,he⟩).symm
      have hd:=hsz.2.trans inv.defers.symm
      generalize Qbo (l.take n) vs 0 a0=b at *
      cases a; cases b
      simp_all
    rw [heq] at hq
    exact hq
  have main:∀ (fuel:Nat) (listed:Array Bool) (a:Act) (W:World) (vs:Nat→Value),Inv R w0 a0 l.toArray E n listed a W vs→fuel=left l.toArray listed→wpAny P .any l.toArray Q fuel listed a W:=by
    intro fuel
    induction fuel with
    | zero =>
      intro listed a W vs inv hf
      refine done 0 listed a W vs inv hf fun i hi=>?_
      cases hx:listed.getD i true with
      | true=>rfl
      | false =>
        have:=Qg3 (ops:=l.toArray) (by simp; omega) hx
        omega
    | succ fuel ih =>
      intro listed a W vs inv hf
      by_cases hA:∀ i,i<n→listed.getD i true=true
      · exact done _ listed a W vs inv hf hA
      · have hs:listed.size=l.length:=by simpa using inv.size
        obtain ⟨i0,hi0,hu0⟩:∃ i,i<n∧listed.getD i true=false:=by
          refine Classical.byContradiction fun hc=>hA fun i hi=>?_
          cases hx:listed.getD i true with
          | true=>rfl
          | false=>exact absurd ⟨i,hi,hx⟩ hc
        refine ⟨fun hr=>?_,fun j hj=>?_⟩
        · obtain ⟨j,hj⟩:=QbP hedge (listed:=listed) i0 (by omega) hu0
          rw [hr] at hj; cases hj
        · obtain ⟨hju,oj,hoj,_⟩:=mem_ready.1 hj
          have hoj':l[j]? = some oj:=by simpa using hoj
          have hjl:j<l.length:=(List.getElem?_eq_some_iff.1 hoj').1
          have hjn:j<n:=by
            rcases Nat.lt_or_ge j n with h | h
            · exact h
            · exfalso
              have h3:=List.all_eq_true.1 htail j (List.mem_range.2 hjl)
              simp only [Bool.or_eq_true,decide_eq_true_eq] at h3
              rcases h3 with h3 | h3
              · omega
              · have h4:=List.all_eq_true.1 h3 i0 (List.mem_range.2 (by omega))
                have:=Qb5 inv.closed hj (hanc j i0 h4)
                rw [QaZ this] at hu0
                cases hu0
          obtain ⟨s,hsj,hso⟩:=QeS (l.take n) S 0 hsrc j oj (by rw [hget j hjn]; exact hoj')
          rw [Nat.zero_add] at hso
          simp only [Qhx,Bool.and_eq_true] at hso
          obtain ⟨hg,hrd⟩:=hso
          have hg':Qd4 l.toArray oj=some s.guard:=by simpa using hg
          have holds:∀ (r:List (Tmp×Option Nat)),r.all (QdB l (masks l #[]) j)=true→Qc4 (slots a0) E (slots a) W r:=by
            intro r
            induction r with
            | nil=>intro _; trivial
            | cons x r ihr =>
              intro hr
              simp only [List.all_cons,Bool.and_eq_true] at hr
              obtain ⟨t,si⟩:=x
              cases si with
              | none =>
                refine ⟨?_,ihr hr.2⟩
                have h1:=hr.1
                simp only [QdB] at h1
                have h2:a.tmps[t]? = a0.tmps[t]?:=inv.rest t fun i o hli hin hio hd=>by
                  have h3:=List.all_eq_true.1 h1 (o,i) (by
                    rw [List.mem_iff_getElem?]
                    refine ⟨i,?_⟩
                    rw [List.getElem?_zipIdx]
                    have:l[i]? = some o:=by simpa using hio
                    simp [this])
                  simp only [hd,bne_self_eq_false,Bool.false_or,Bool.or_eq_true,beq_iff_eq] at h3
                  have hlj:listed.getD j false=true:=by
                    rcases h3 with h3 | h3
                    · exact inv.closed.anc (hanc i j h3) hli
                    · rw [←h3]; exact hli
                  rw [QaZ hlj] at hju
                  cases hju
                simp only [slots,Array.getD_eq_getD_getElem?,h2]
              | some i =>
                refine ⟨?_,ihr hr.2⟩
                have h1:=hr.1
                simp only [QdB,Bool.and_eq_true,decide_eq_true_eq,beq_iff_eq] at h1
                obtain ⟨⟨hij,hbit⟩,hdi⟩:=h1
                have hli:=Qb5 inv.closed hj (hanc j i hbit)
                obtain ⟨oi,hoi,hdi'⟩:∃ oi,l[i]? = some oi∧oi.dst=some t:=by
                  cases hx:l[i]? with
                  | none=>rw [hx] at hdi; cases hdi
                  | some oi=>rw [hx] at hdi; exact ⟨oi,rfl,hdi⟩
                have hv:=inv.vals i oi t hli (by omega) (by simpa using hoi) hdi'
                have:slots a t=vs i:=by simp only [slots,Array.getD_eq_getD_getElem?,hv,Option.getD_some]
                rw [this]
                exact inv.facts i hli (by omega)
          have hopj:=hop j oj s (by rw [hget j hjn]; exact hoj') hsj (slots a) W inv.rel (holds s.reads hrd)
          have next:∀ v W',R W W'→(E.getD j fun _ _=>True) v W'→wpAny P .any l.toArray Q fuel (listed.setIfInBounds j true) (a.put oj.dst v) W':=by
            intro v W' hR hφ
            have hjs:j<listed.size:=by omega
            have hlist:∀ i,(listed.setIfInBounds j true).getD i false=true→i=j∨listed.getD i false=true:=fun i hi=>by
              by_cases hij:j=i
              · exact .inl hij.symm
              · rw [getD_set_ne false hij] at hi; exact .inr hi
            refine ih _ _ W' (fun i=>if i=j then v else vs i) ⟨by simp [inv.size],inv.closed.set hj,htr inv.rel hR,(put_defers _ _ _).trans inv.defers,(QdR _ _ _).trans inv.asize,?_,?_,?_,?_⟩ ?_
            · intro i hi hin
              by_cases hij:i=j
              · subst hij; simpa using hφ
              · simp only [hij,if_false]
                rcases hlist i hi with h | h
                · exact absurd h hij
                · exact hstg i _ _ _ hR (inv.facts i h hin)
            · intro i o d hi hin hio hd
              by_cases hij:i=j
              · subst hij
                obtain rfl:o=oj:=Option.some.inj (hio.symm.trans hoj)
                rw [hd,Qdy _ _ _ (by rw [inv.asize,hN]; exact Qgg (l.take n) hdst i o d (by rw [hget i hin]; exact hoj') hd)]
                simp
              · simp only [hij,if_false]
                rcases hlist i hi with h | h
                · exact absurd h hij
                · rw [Qcg _ _ _ _ (Qgf (l.take n) hdst i j o oj d (by rw [hget i hin]; simpa using hio) (by rw [hget j hjn]; exact hoj') hij hd)]
                  exact inv.vals i o d h hin hio hd
            · intro t ht
              rw [Qcg _ _ _ _ (ht j oj (by simp [Array.getElem?_setIfInBounds_self_of_lt hjs]) hjn hoj)]
              exact inv.rest t fun i o hi hin hio=>ht i o (getD_set_true hi) hin hio
            · intro i hi
              rw [getD_set_ne false (by omega)]
              exact inv.tail i hi
            · have:=Qg2 hju inv.size
              omega
          refine Qez hoj ?_
          rw [Qc6 hg']
          by_cases hb:gOk s.guard (slots a)=true
          · rw [if_pos hb]
            refine QhC (R:=R) (W:=W) (φ:=E.getD j fun _ _=>True) (fun {_ _ _} h1 h2=>htr h1 h2) ?_ next
            cases hgd':s.guard with
            | none=>rw [hgd'] at hopj; exact hopj
            | some db =>
              rw [hgd'] at hopj hb
              exact (if_pos hb).mp hopj
          · rw [if_neg hb]
            refine next undef W (hrf W) ?_
            cases hgd':s.guard with
            | none=>rw [hgd'] at hb; exact absurd rfl hb
            | some db =>
              rw [hgd'] at hopj hb
              exact (if_neg hb).mp hopj
  exact main
def Qj3 {P : Program} {R:World→World→Prop} {Q:Exit→Act→World→Prop} {a:Act} {w:World} {l:List Oper} {n:Nat} (F:List Fact→Prop):Prop :=
  ∀ E,(∀ W,R w.drew W→fin (fun a W=>wpList P l.toArray Q (l.drop n) a W) (l.take n) E a W)→F E
theorem Qj3.out {P : Program} {R:World→World→Prop} {Q:Exit→Act→World→Prop} {a:Act} {w:World} {l:List Oper} {n:Nat} {F:List Fact→Prop} (h:Qj3 (P:=P) (R:=R) (Q:=Q) (a:=a) (w:=w) (l:=l) (n:=n) F) {E:List Fact}
    (k:∀ W,R w.drew W→fin (fun a W=>wpList P l.toArray Q (l.drop n) a W) (l.take n) E a W):F E:=h E k
theorem QcO {id : Nat} {Q:Exit→Act→World→Prop} {a:Act} {w:World} {l:List Oper} (R:World→World→Prop) (n N:Nat) (S:List Srq) (hm:P.follows .mixedOrders=true) (hok:ok l n N S=true) (hN:a.tmps.size=N)
    (hrf:∀ a,R a a) (htr:∀ {a b c:World},R a b→R b c→R a c)
    (h:∀ (F:List Fact→Prop) (r0:Tmp→Value),r0=slots a→Qj3 (P:=P) (R:=R) (Q:=Q) (a:=a) (w:=w) (l:=l) (n:=n) F→relies P R w.drew r0 F (l.take n) S []):(Code.region id l.toArray true).wp P Q a w:=by
  have hok':=hok
  simp only [ok,Bool.and_eq_true,decide_eq_true_eq] at hok'
  obtain ⟨⟨⟨⟨⟨hn,hsrc⟩,hdst⟩,hedge⟩,htail⟩,hdt⟩:=hok'
  obtain ⟨E,hl,_,hst,hop,hfin⟩:=Qc7 (M:=masks l #[]) (l.take n) S [] (h (fun E=>∀ W,R w.drew W→fin (fun a W=>wpList P l.toArray Q (l.drop n) a W) (l.take n) E a W) _ rfl (show Qj3 _ from fun _ h=>h)) hsrc (fun _ h=>by cases h)
  refine wp_region_any hm ?_
  have hcount:l.toArray.size=left l.toArray (Array.replicate l.toArray.size false):=by
    unfold left
    have:∀ m,m≤l.toArray.size→(List.range m).countP (fun i=>!(Array.replicate l.toArray.size false).getD i true)=m:=by
      intro m
      induction m with
      | zero=>intro _; simp
      | succ m ih =>
        intro hm
        rw [List.range_succ,List.countP_append,ih (by omega),List.countP_singleton]
        have:(Array.replicate l.toArray.size false).getD m true=false:=by simp at hm ⊢; simp [show m<l.length by omega]
        simp only [this,Bool.not_false,if_true]
    exact (this _ (qR _)).symm
  refine QeL (R:=R) (w0:=w.drew) (a0:=a) hok hN hrf htr (by simpa using hl) hst (fun j o s hj hs=>by simpa using hop j o s hj hs) hfin _ _ a _ (fun _=>undef) ⟨by simp,?_,hrf _,rfl,rfl,?_,?_,?_,?_⟩ hcount
  · intro j o ho hl
    rw [getD_replicate_false] at hl; cases hl
  · intro i hi; rw [getD_replicate_false] at hi; cases hi
  · intro i o d hi; rw [getD_replicate_false] at hi; cases hi
  · intro t _; rfl
  · intro i _; exact getD_replicate_false _ _
end
end Go.Proofs.YthfkppjajmjpnaaDoor.Rely
end
section
namespace Go.Proofs.YthfkppjajmjpnaaDoor.Rely
open Go Go.RowKit
theorem Qax (W : World):Ext W W.drew:=⟨rfl,rfl,rfl,qR _,fun _ _=>rfl⟩
theorem Qck (W : World) (o:Obj):Ext W (W.alloc o):=(Below.refl _ _).alloc (qR _) o
def nth (xs : List Int) (i:Nat):Int:=xs.getD i 0
def Qav (bs : List Int):Prop:=∀ x∈bs,0≤x∧x≤255
theorem Qav.nth {bs : List Int} (h:Qav bs) (i:Nat):0≤nth bs i∧nth bs i≤255:=by
  unfold Rely.nth
  rcases Nat.lt_or_ge i bs.length with hi | hi
  · rw [List.getD_eq_getElem?_getD,List.getElem?_eq_getElem hi]; exact h _ (List.getElem_mem hi)
  · rw [List.getD_eq_getElem?_getD,List.getElem?_eq_none hi]; decide
def Qfo (w : World) (k:IntKind) (a:Option Addr) (n:Nat) (bs:List Int):Prop :=
  n=0∨∃ b off,a=some ⟨b,off,none⟩∧b<w.heap.size∧∀ i,i<n→w.cell? ⟨b,off+i,none⟩=some (.int k (nth bs i))
theorem Qfo.ext {w w':World} {k:IntKind} {a:Option Addr} {n:Nat} {bs:List Int} (h:Qfo w k a n bs) (e:Ext w w'):Qfo w' k a n bs:=by
  refine h.imp id ?_
  rintro ⟨b,off,ha,hlt,hc⟩
  exact ⟨b,off,ha,qL hlt e.size,fun i hi=>by rw [e.cell hlt]; exact hc i hi⟩
def Qex (w : World) (v:Value) (bs:List Int):Prop :=
  ∃ a cap,v=.slice a bs.length cap∧bs.length≤maxLen∧Qav bs∧Qfo w .u8 a bs.length bs
theorem Qex.ext {w w':World} {v:Value} {bs:List Int} (h:Qex w v bs) (k:Ext w w'):Qex w' v bs:=by
  obtain ⟨a,cap,hv,hl,hb,h⟩:=h
  exact ⟨a,cap,hv,hl,hb,h.ext k⟩
def QmH (k : IntKind) (w:World) (a:Option Addr) (len cap:Nat) (zs:List Int):Prop :=
  (a=none∧len=0∧cap=0∧zs=[]) ∨
  ∃ x,a=some x∧len≤cap∧cap≤maxLen∧zs.length=cap∧(∀ i,i<zs.length→w.cell? (x.add i)=some (.int k (zs.getD i 0)))∧∀ n∈zs,(Lit.int k n).wf=true
theorem Qd0 {w : World} {b o:Nat} {v:Value} (h:w.cell? ⟨b,o,none⟩=some v):b<w.heap.size:=by
  rcases Nat.lt_or_ge b w.heap.size with h' | h'
  · exact h'
  · simp [World.cell?,Array.getElem?_eq_none h'] at h
end Go.Proofs.YthfkppjajmjpnaaDoor.Rely
end
section
namespace Go.Proofs.YthfkppjajmjpnaaDoor.Rely
open Go Go.RowKit
def ints (k : IntKind) (xs:List Int):Array Value:=(xs.map (Value.int k)).toArray
theorem QaU (k : IntKind) (xs:List Int) (i:Nat) (h:i<xs.length):(ints k xs)[i]? = some (.int k (nth xs i)):=by
  simp [ints,nth,h]
theorem Qae (k : IntKind) (xs:List Int):(ints k xs).size=xs.length:=by simp [ints]
theorem Qg6 (k : IntKind) (xs:List Int) (i:Nat) (v:Int):(ints k xs).setIfInBounds i (.int k v)=ints k (xs.set i v):=by
  unfold ints
  simp [List.map_set]
theorem QdF {P : Program} (w:World) (d:Nat) {e:TypeId} {k:IntKind} (he:P.underlying e=some (.int k)) (hc:P.cellsOf e=1) (xs ys:List Int):∀ (is:List Nat),(∀ i∈is,i<xs.length∧i<ys.length) →
    (Op.eqItems (d+1) e (P.cellsOf e) (ints k xs) (ints k ys) is).run P w=.ok (decide (∀ i∈is,nth xs i=nth ys i)) w
  | [],_=>by simp [Op.eqItems]
  | i::is,h=>by
    have hp:P.plainKey e=true:=by simp [Program.plainKey,he]
    obtain ⟨h1,h2⟩:=h i List.mem_cons_self
    have a1:=run_part_plain w hp (QaU k xs i h1)
    have a2:=run_part_plain w hp (QaU k ys i h2)
    have a3:=run_equalIn_int (P:=P) w d e k k (nth xs i) (nth ys i) he
    have ih:=QdF w d he hc xs ys is fun j hj=>h j (List.mem_cons_of_mem _ hj)
    simp only [Op.eqItems,hc,Nat.mul_one,Sem.run_bind,a1,a2,a3,Result.andThen_ok]
    rw [hc] at ih
    by_cases hq:nth xs i=nth ys i
    · have:(nth xs i==nth ys i)=true:=beq_iff_eq.2 hq
      rw [this]
      simp only [Bool.not_true,Bool.false_eq_true,if_false,ih,List.mem_cons,forall_eq_or_imp,hq,true_and]
    · have:(nth xs i==nth ys i)=false:=beq_eq_false_iff_ne.2 hq
      rw [this]
      simp [hq]
theorem QdC {xs ys:List Int} (hl:xs.length=ys.length) (h:∀ i,i<xs.length→nth xs i=nth ys i):xs=ys:=by
  refine List.ext_getElem hl fun i h1 h2=>?_
  have:=h i h1
  simpa [nth,h1,h2] using this
theorem QdE {P : Program} (w:World) (d:Nat) {t e:TypeId} {n:Nat} {k:IntKind} (ht:P.underlying t=some (.array n e)) (he:P.underlying e=some (.int k)) (hc:P.cellsOf e=1) (xs ys:List Int) (hx:xs.length=n) (hy:ys.length=n) :
    (Op.equalIn (d+2) t (.agg (ints k xs)) (.agg (ints k ys))).run P w=.ok (decide (xs=ys)) w:=by
  obtain ⟨i,hi⟩:=info_of_underlying he
  rw [run_equalIn_array w (d+1) _ _ ht hi,QdF w d he hc xs ys (List.range n) fun j hj=>by have:=List.mem_range.1 hj; omega]
  congr 1
  refine decide_eq_decide.2 ⟨fun h=>QdC (by omega) fun j hj=>h j (List.mem_range.2 (by omega)),fun h=>by rw [h]; exact fun _ _=>rfl⟩
theorem Qjs {P : Program} (w:World) {t e:TypeId} {n:Nat} {k:IntKind} (ht:P.underlying t=some (.array n e)) (he:P.underlying e=some (.int k)) (hc:P.cellsOf e=1) (xs ys:List Int) (hx:xs.length=n) (hy:ys.length=n) :
    (binOp .eql t (.agg (ints k xs)) (.agg (ints k ys))).run P w=.ok (.bool (decide (xs=ys))) w:=by
  rw [run_eql_struct,QdE w 9998 ht he hc xs ys hx hy]
  rfl
theorem QiU {P : Program} (w:World) {t e:TypeId} {n:Nat} {k:IntKind} (ht:P.underlying t=some (.array n e)) (he:P.underlying e=some (.int k)) (hc:P.cellsOf e=1) (xs ys:List Int) (hx:xs.length=n) (hy:ys.length=n) :
    (binOp .neq t (.agg (ints k xs)) (.agg (ints k ys))).run P w=.ok (.bool (!decide (xs=ys))) w:=by
  rw [run_neq_struct,QdE w 9998 ht he hc xs ys hx hy]
  rfl
end Go.Proofs.YthfkppjajmjpnaaDoor.Rely
end
section
namespace Go.Proofs.YthfkppjajmjpnaaDoor.Rely
open Go Go.RowKit
theorem Qa5 {W : World} {g:Nat} {o:Obj} (h:W.heap[g]? = some o):g<W.heap.size:=(Array.getElem?_eq_some_iff.1 h).1
theorem Qah {W W':World} {g:Nat} {o:Obj} (h:W.heap[g]? = some o) (e:Ext W W'):W'.heap[g]? = some o:=(e.block _ (Qa5 h)).trans h
theorem Qcs {W : World} {g:Nat} {cs:Array Value} {t:TypeId} (h:W.heap[g]? = some (.cells cs t)) {k:Nat} {v:Value} (hk:cs[k]? = some v):W.cell? ⟨g,k,none⟩=some v :=
  (cell_of_row W g k cs t _ h).trans hk
end Go.Proofs.YthfkppjajmjpnaaDoor.Rely
end
section
namespace Go.Proofs.YthfkppjajmjpnaaDoor.Rely
open Go Go.RowKit
theorem Qcr {W W':World} {row:Option Nat} {g:Nat} {cs:Array Value} {t:TypeId} (h:W.heap[g]? = some (.cells cs t)) (hg:W.grownBy W' row) (hr:∀ r,row=some r→∃ o:Obj,W.heap[r]? = some o∧o.isCells=false):W'.heap[g]? = some (.cells cs t) :=
  (hg.block g (Qa5 h) fun e=>by
    obtain ⟨o,ho,hc⟩:=hr g e.symm
    rw [h] at ho
    cases ho
    cases hc).trans h
theorem QcB {W W':World} (h:Ext W W'):KeepsOthers W W':=⟨h.size,fun k o hk _=>Qah hk h⟩
end Go.Proofs.YthfkppjajmjpnaaDoor.Rely
end
section
namespace Go.Proofs.YthfkppjajmjpnaaDoor.Rely
open Go Go.RowKit
theorem QdL {P : Program} (w:World) (g off:Nat) (t ty:TypeId) (cs ps:Array Value) (fr:Nat×Nat) (d:TypeDesc) (hg:w.heap[g]? = some (.cells cs t fr)) (hp:∀ j v,ps[j]? = some v→cs[off+j]? = some v)
    (hu:P.underlying ty=some d) (hd:(match d with | .struct _ | .array _ _=>true | _=>false)=true) (hi:(P.info? ty).map (·.size)=some ps.size) :
    (loadVar ty ⟨g,off,none⟩).run P w=.ok (.agg ps) w:=by
  have hl:(loadCells ⟨g,off,none⟩ ps.toList.length).run P w=.ok ps.toList.toArray w :=
    run_loadCells_list (P:=P) w ⟨g,off,none⟩ ps.toList (fun j v hv=>by
      have hadd:(⟨g,off,none⟩:Addr).add j=⟨g,off+j,none⟩:=by unfold Addr.add; split <;> simp_all
      rw [hadd,cell_of_row w g (off+j) cs t fr hg]
      exact hp j v (by simpa using hv))
  cases hq:P.info? ty with
  | none=>simp [hq] at hi
  | some i =>
    have hs:i.size=ps.size:=by simpa [hq] using hi
    have hagg:(isAgg ty).run P w=.ok true w:=by
      unfold isAgg
      rw [Sem.run_bind,run_underlying hu w]
      cases d <;> simp_all
    simp only [Array.length_toList,Array.toArray_toList] at hl
    simp [loadVar,Sem.run_bind,hagg,sizeOf,typeInfo,hq,hs,hl]
def splice (cur : Array Value) (k:Nat):List Value→Array Value
  | []=>cur
  | v::r=>splice (cur.setIfInBounds k v) (k+1) r
end Go.Proofs.YthfkppjajmjpnaaDoor.Rely
end
section
namespace Go.Proofs.YthfkppjajmjpnaaDoor.Rely
open Go Go.RowKit
theorem Qe6 (vs : List Value):∀ (cur:Array Value) (k:Nat),k+vs.length≤cur.size→∀ j,(splice cur k vs)[j]? = if k≤j∧j<k+vs.length then vs[j-k]? else cur[j]?:=by
  induction vs with
  | nil =>
    intro cur k _ j
    rw [splice,if_neg (by simp only [List.length_nil]; omega)]
  | cons v r ih =>
    intro cur k hk j
    simp only [List.length_cons] at hk ⊢
    rw [splice,ih _ _ (by simp; omega)]
    by_cases h1:k+1≤j∧j<k+1+r.length
    · rw [if_pos h1,if_pos (by omega),show j-k=(j-(k+1))+1 by omega,List.getElem?_cons_succ]
    · rw [if_neg h1]
      by_cases h2:j=k
      · subst h2
        rw [if_pos (by omega),Array.getElem?_setIfInBounds_self_of_lt (by omega),Nat.sub_self,List.getElem?_cons_zero]
      · rw [Array.getElem?_setIfInBounds_ne (Ne.symm h2),if_neg (by omega)]
end Go.Proofs.YthfkppjajmjpnaaDoor.Rely
end
section
namespace Go.Proofs.YthfkppjajmjpnaaDoor.Rely
open Go
section
variable {P : Program} {R : World → World → Prop} {w0 : World} {a0 : Act}
end
end Go.Proofs.YthfkppjajmjpnaaDoor.Rely
end
section
namespace Go.Proofs.YthfkppjajmjpnaaDoor.Rely
open Go
section
variable {P : Program} {R : World → World → Prop} {w0 : World} {a0 : Act} {Fe : Fence} {nf : Nat}
theorem QdH {ops : Array Oper} {Q:Exit→Act→World→Prop} {i:Nat} {o:Oper} {K:Act→World→Prop} {a:Act} {w:World} (ho:ops[i]? = some o) (hfn:∀ f,Fe.fn f)
    (h:if Region.wanted o (yielded ops a.tmps) then o.wpIn Fe nf P a w K Q else K (a.put o.dst undef) w):wpOpIn Fe nf P ops Q i K a w:=by
  unfold wpOpIn
  rw [ho]
  simp only
  split at h
  · rename_i hw; rw [if_pos hw]; exact h
  · rename_i hw; rw [if_neg hw]; exact ⟨fun f _=>hfn f,h⟩
theorem QfW {o : Oper} {a:Act} {W:World} {φ:Fact} {K:Act→World→Prop} {Q:Exit→Act→World→Prop} (hnd:∀ c,o.op≠.defer c) (hfn:∀ f,Fe.fn f) (hdp:Fe.depth.isSome=true→1≤nf)
    (hC:∀ {f:FuncId} {args:Array Value} {w:World} {T:Ending→World→Prop},Calls P f args w T→CallsIn Fe (nf-1) P f args w T)
    (htr:∀ {a b c:World},R a b→R b c→R a c) (h:Qeh P R o (slots a) W φ)
    (hk:∀ v W',R W W'→φ v W'→K (a.put o.dst v) W'):o.wpIn Fe nf P a W K Q:=by
  unfold Qeh at h
  rw [←Qet] at h
  unfold Oper.wpIn
  rw [Oper.semAt_plain Fe _ _ hnd]
  refine ⟨fun f _=>hfn f,?_⟩
  generalize (execOp a.eval o).run P W=r at *
  cases r with
  | halt x w=>exact h.elim
  | ok n W1 =>
    cases n <;> simp only [QcG] at h <;> try exact h.elim
    case value v=>exact hk v W1 h.1 h.2
    case skip=>exact hk undef W1 h.1 h.2
    case enter f args =>
      obtain ⟨h1,h2⟩:=h
      refine ⟨hdp,CallsIn.mono (hC h2) fun e W2 ⟨v,he,hr,hp⟩=>?_⟩
      subst he
      exact hk v W2 (htr h1 hr) hp
theorem Qfu {l : List Oper} {n:Nat} {Q:Exit→Act→World→Prop} (hM:Qhv (masks l #[]) n l.length=true) (he:QcY 0 l=true) :
    ∀ (fuel m:Nat) (listed:Array Bool) (a:Act) (W:World),n≤m→m≤l.length→listed.size=l.length→Qcm l.toArray listed→(∀ i,i<m→listed.getD i false=true)→(∀ i,m≤i→listed.getD i false=false) →
      fuel=l.length-m→wpListIn Fe nf P l.toArray Q (l.drop m) a W→wpAnyIn Fe nf P .any l.toArray Q fuel listed a W:=by
  have only:∀ (m:Nat) (listed:Array Bool),n≤m→Qcm l.toArray listed→(∀ i,i<m→listed.getD i false=true)→(∀ i,m≤i→listed.getD i false=false)→∀ j∈Region.ready .any l.toArray listed,j=m∧m<l.length:=by
    intro m listed hm hc h1 h2 j hj
    obtain ⟨hu,o,ho,_⟩:=mem_ready.1 hj
    have hjl:j<l.length:=by have:=(Array.getElem?_eq_some_iff.1 ho).1; simpa using this
    have hjm:m≤j:=by
      rcases Nat.lt_or_ge j m with h | h
      · have:=QaZ (h1 j h); rw [this] at hu; cases hu
      · exact h
    rcases Nat.eq_or_lt_of_le hjm with h | h
    · exact ⟨h.symm,by omega⟩
    · exfalso
      have h3:=List.all_eq_true.1 hM j (List.mem_range.2 hjl)
      simp only [Bool.or_eq_true,decide_eq_true_eq] at h3
      rcases h3 with h3 | h3
      · omega
      · have h4:=List.all_eq_true.1 h3 m (List.mem_range.2 h)
        have ha:=QcA l.toArray l #[] (fun j=>by simp) (fun j i h=>by simp at h) j m h4
        have:=Qb5 hc hj ha
        rw [h2 m (qR _)] at this
        cases this
  intro fuel
  induction fuel with
  | zero =>
    intro m listed a W hn hm hs hc h1 h2 hf h
    have hml:m=l.length:=by omega
    subst hml
    refine ⟨?_,by simpa [wpListIn] using h⟩
    cases hr:Region.ready .any l.toArray listed with
    | nil=>rfl
    | cons x xs=>have:=only _ listed hn hc h1 h2 x (by rw [hr]; exact List.mem_cons_self); omega
  | succ fuel ih =>
    intro m listed a W hn hm hs hc h1 h2 hf h
    have hml:m<l.length:=by omega
    obtain ⟨o,ho⟩:∃ o,l[m]? = some o:=⟨l[m],by simp [hml]⟩
    have hd:l.drop m=o::l.drop (m+1):=by
      rw [List.drop_eq_getElem_cons hml]
      congr 1
      exact Option.some.inj (by rw [←ho]; simp [hml])
    refine ⟨fun hr=>?_,fun j hj=>?_⟩
    · obtain ⟨j,hj⟩:=QbP he (listed:=listed) m hml (getD_in (by omega) (h2 m (qR _)))
      rw [hr] at hj; cases hj
    · obtain ⟨rfl,_⟩:=only m listed hn hc h1 h2 j hj
      rw [hd] at h
      have h':wpOpIn Fe nf P l.toArray Q j (wpListIn Fe nf P l.toArray Q (l.drop (j+1))) a W:=by
        unfold wpOpIn
        have:(l.toArray)[j]? = some o:=by simpa using ho
        rw [this]
        exact h
      refine wpOpIn_mono (fun a' W' h2'=>ih (j+1) _ a' W' (by omega) hml (by simp [hs]) (hc.set hj) (fun i hi=>?_) (fun i hi=>?_) (by omega) h2') h'
      · by_cases hij:j=i
        · subst hij; simp [Array.getElem?_setIfInBounds_self_of_lt (show j<listed.size by omega)]
        · rw [getD_set_ne false hij]; exact h1 i (by omega)
      · rw [getD_set_ne false (by omega)]; exact h2 i (by omega)
theorem QdW {l : List Oper} {n N:Nat} {S:List Srq} {E:List Fact} {Q:Exit→Act→World→Prop} (hfn:∀ f,Fe.fn f) (hdp:Fe.depth.isSome=true→1≤nf) (hC:∀ {f:FuncId} {args:Array Value} {w:World} {T:Ending→World→Prop},Calls P f args w T→CallsIn Fe (nf-1) P f args w T) (hnd:∀ o∈l,∀ c,o.op≠.defer c) (hok:ok l n N S=true) (hN:a0.tmps.size=N) (hrf:∀ a,R a a) (htr:∀ {a b c:World},R a b→R b c→R a c)
    (hE:E.length=(l.take n).length) (hst:∀ φ∈E,Qb6 R φ)
    (hop:∀ j o s,(l.take n)[j]? = some o→S[j]? = some s→opOk P R w0 (slots a0) E o s (E.getD j fun _ _=>True))
    (hfin:∀ W,R w0 W→fin (fun a W=>wpListIn Fe nf P l.toArray Q (l.drop n) a W) (l.take n) E a0 W) :
    ∀ (fuel:Nat) (listed:Array Bool) (a:Act) (W:World) (vs:Nat→Value),Inv R w0 a0 l.toArray E n listed a W vs→fuel=left l.toArray listed→wpAnyIn Fe nf P .any l.toArray Q fuel listed a W:=by
  simp only [ok,Bool.and_eq_true,decide_eq_true_eq] at hok
  obtain ⟨⟨⟨⟨⟨hn,hsrc⟩,hdst⟩,hedge⟩,htail⟩,hdt⟩:=hok
  have hlen:(l.take n).length=n:=by simp [hn]
  have hget:∀ i,i<n→(l.take n)[i]? = l[i]?:=fun i hi=>by simp [hi]
  have hgd:∀ i,(E.getD i fun _ _=>True)=(fun _ _=>True)∨(E.getD i fun _ _=>True)∈E:=fun i=>by
    rcases Nat.lt_or_ge i E.length with h | h
    · right; simp [h]
    · left; simp [List.getElem?_eq_none h]
  have hstg:∀ i,Qb6 R (E.getD i fun _ _=>True):=fun i=>by
    rcases hgd i with h | h
    · rw [h]; exact fun _ _ _ _ _=>trivial
    · exact hst _ h
  have hanc:∀ j i,((masks l #[]).getD j 0).testBit i=true→Anc l.toArray i j:=QcA l.toArray l #[] (fun j=>by simp) (fun j i h=>by simp at h)
  have count:∀ (listed:Array Bool),(∀ i,i<n→listed.getD i true=true)→(∀ i,n≤i→i<l.length→listed.getD i true=false)→left l.toArray listed=l.length-n:=by
    intro listed h1 h2
    unfold left
    simp only [List.size_toArray]
    have:∀ m,m≤l.length→(List.range m).countP (fun i=>!listed.getD i true)=m-n:=by
      intro m
      induction m with
      | zero=>intro _; simp
      | succ m ih =>
        intro hm
        rw [List.range_succ,List.countP_append,ih (by omega),List.countP_singleton]
        by_cases hmn:m<n
        · simp only [h1 m hmn,Bool.not_true,Bool.false_eq_true,if_false]; omega
        · simp only [h2 m (by omega) (by omega),Bool.not_false,if_true]; omega
    exact this l.length (qR _)
  have done:∀ (fuel:Nat) (listed:Array Bool) (a:Act) (W:World) (vs:Nat→Value),Inv R w0 a0 l.toArray E n listed a W vs→fuel=left l.toArray listed→(∀ i,i<n→listed.getD i true=true)→wpAnyIn Fe nf P .any l.toArray Q fuel listed a W:=by
    intro fuel listed a W vs inv hf hall
    have hs:listed.size=l.length:=by simpa using inv.size
    have hall':∀ i,i<n→listed.getD i false=true:=fun i hi=>by
      cases hx:listed.getD i false with
      | true=>rfl
      | false=>have:=getD_in (by omega) hx; rw [hall i hi] at this; cases this
    refine Qfu htail hedge fuel n listed a W (qR _) hn hs inv.closed hall' inv.tail (by rw [hf]; exact count listed hall (fun i h1 h2=>getD_in (by omega) (inv.tail i h1))) ?_
    have hq:=Qgd (l.take n) E a0 vs 0 (hfin W inv.rel) hE (fun i hi=>by
      rw [Nat.zero_add]
      exact inv.facts i (hall' i (by omega)) (by omega))
    have heq:Qbo (l.take n) vs 0 a0=a:=by
      have hsz:=Qcv (l.take n) vs 0 a0
      have ht:(Qbo (l.take n) vs 0 a0).tmps=a.tmps:=by
        refine Array.ext_getElem? fun t=>?_
        by_cases hw:∃ (i:Nat) (o:Oper),(l.take n)[i]? = some o∧o.dst=some t
        · obtain ⟨i,o,hi,ho⟩:=hw
          have hin:i<n:=by have:=(List.getElem?_eq_some_iff.1 hi).1; omega
          rw [Qcu (l.take n) vs 0 a0 t i o hdst hN hi ho,Nat.zero_add]
          exact (inv.vals i o t (hall' i hin) hin (by rw [hget i hin] at hi; simpa using hi) ho).symm
        · rw [QbQ (l.take n) vs 0 a0 t (fun o ho he=>by
            obtain ⟨i,hi⟩:=List.mem_iff_getElem?.1 ho
            exact hw ⟨i,o,hi,he⟩)]
          refine (inv.rest t fun i o _ hin hi he=>hw ⟨i,o,by rw [hget i hin]; simpa using hi,he⟩).symm
      have hd:=hsz.2.trans inv.defers.symm
      generalize Qbo (l.take n) vs 0 a0=b at *
      cases a; cases b
      simp_all
    rw [heq] at hq
    exact hq
  have main:∀ (fuel:Nat) (listed:Array Bool) (a:Act) (W:World) (vs:Nat→Value),Inv R w0 a0 l.toArray E n listed a W vs→fuel=left l.toArray listed→wpAnyIn Fe nf P .any l.toArray Q fuel listed a W:=by
    intro fuel
    induction fuel with
    | zero =>
      intro listed a W vs inv hf
      refine done 0 listed a W vs inv hf fun i hi=>?_
      cases hx:listed.getD i true with
      | true=>rfl
      | false =>
        have:=Qg3 (ops:=l.toArray) (by simp; omega) hx
        omega
    | succ fuel ih =>
      intro listed a W vs inv hf
      by_cases hA:∀ i,i<n→listed.getD i true=true
      · exact done _ listed a W vs inv hf hA
      · have hs:listed.size=l.length:=by simpa using inv.size
        obtain ⟨i0,hi0,hu0⟩:∃ i,i<n∧listed.getD i true=false:=by
          refine Classical.byContradiction fun hc=>hA fun i hi=>?_
          cases hx:listed.getD i true with
          | true=>rfl
          | false=>exact absurd ⟨i,hi,hx⟩ hc
        refine ⟨fun hr=>?_,fun j hj=>?_⟩
        · obtain ⟨j,hj⟩:=QbP hedge (listed:=listed) i0 (by omega) hu0
          rw [hr] at hj; cases hj
        · obtain ⟨hju,oj,hoj,_⟩:=mem_ready.1 hj
          have hoj':l[j]? = some oj:=by simpa using hoj
          have hjl:j<l.length:=(List.getElem?_eq_some_iff.1 hoj').1
          have hjn:j<n:=by
            rcases Nat.lt_or_ge j n with h | h
            · exact h
            · exfalso
              have h3:=List.all_eq_true.1 htail j (List.mem_range.2 hjl)
              simp only [Bool.or_eq_true,decide_eq_true_eq] at h3
              rcases h3 with h3 | h3
              · omega
              · have h4:=List.all_eq_true.1 h3 i0 (List.mem_range.2 (by omega))
                have:=Qb5 inv.closed hj (hanc j i0 h4)
                rw [QaZ this] at hu0
                cases hu0
          obtain ⟨s,hsj,hso⟩:=QeS (l.take n) S 0 hsrc j oj (by rw [hget j hjn]; exact hoj')
          rw [Nat.zero_add] at hso
          simp only [Qhx,Bool.and_eq_true] at hso
          obtain ⟨hg,hrd⟩:=hso
          have hg':Qd4 l.toArray oj=some s.guard:=by simpa using hg
          have holds:∀ (r:List (Tmp×Option Nat)),r.all (QdB l (masks l #[]) j)=true→Qc4 (slots a0) E (slots a) W r:=by
            intro r
            induction r with
            | nil=>intro _; trivial
            | cons x r ihr =>
              intro hr
              simp only [List.all_cons,Bool.and_eq_true] at hr
              obtain ⟨t,si⟩:=x
              cases si with
              | none =>
                refine ⟨?_,ihr hr.2⟩
                have h1:=hr.1
                simp only [QdB] at h1
                have h2:a.tmps[t]? = a0.tmps[t]?:=inv.rest t fun i o hli hin hio hd=>by
                  have h3:=List.all_eq_true.1 h1 (o,i) (by
                    rw [List.mem_iff_getElem?]
                    refine ⟨i,?_⟩
                    rw [List.getElem?_zipIdx]
                    have:l[i]? = some o:=by simpa using hio
                    simp [this])
                  simp only [hd,bne_self_eq_false,Bool.false_or,Bool.or_eq_true,beq_iff_eq] at h3
                  have hlj:listed.getD j false=true:=by
                    rcases h3 with h3 | h3
                    · exact inv.closed.anc (hanc i j h3) hli
                    · rw [←h3]; exact hli
                  rw [QaZ hlj] at hju
                  cases hju
                simp only [slots,Array.getD_eq_getD_getElem?,h2]
              | some i =>
                refine ⟨?_,ihr hr.2⟩
                have h1:=hr.1
                simp only [QdB,Bool.and_eq_true,decide_eq_true_eq,beq_iff_eq] at h1
                obtain ⟨⟨hij,hbit⟩,hdi⟩:=h1
                have hli:=Qb5 inv.closed hj (hanc j i hbit)
                obtain ⟨oi,hoi,hdi'⟩:∃ oi,l[i]? = some oi∧oi.dst=some t:=by
                  cases hx:l[i]? with
                  | none=>rw [hx] at hdi; cases hdi
                  | some oi=>rw [hx] at hdi; exact ⟨oi,rfl,hdi⟩
                have hv:=inv.vals i oi t hli (by omega) (by simpa using hoi) hdi'
                have:slots a t=vs i:=by simp only [slots,Array.getD_eq_getD_getElem?,hv,Option.getD_some]
                rw [this]
                exact inv.facts i hli (by omega)
          have hopj:=hop j oj s (by rw [hget j hjn]; exact hoj') hsj (slots a) W inv.rel (holds s.reads hrd)
          have next:∀ v W',R W W'→(E.getD j fun _ _=>True) v W'→wpAnyIn Fe nf P .any l.toArray Q fuel (listed.setIfInBounds j true) (a.put oj.dst v) W':=by
            intro v W' hR hφ
            have hjs:j<listed.size:=by omega
            have hlist:∀ i,(listed.setIfInBounds j true).getD i false=true→i=j∨listed.getD i false=true:=fun i hi=>by
              by_cases hij:j=i
              · exact .inl hij.symm
              · rw [getD_set_ne false hij] at hi; exact .inr hi
            refine ih _ _ W' (fun i=>if i=j then v else vs i) ⟨by simp [inv.size],inv.closed.set hj,htr inv.rel hR,(put_defers _ _ _).trans inv.defers,(QdR _ _ _).trans inv.asize,?_,?_,?_,?_⟩ ?_
            · intro i hi hin
              by_cases hij:i=j
              · subst hij; simpa using hφ
              · simp only [hij,if_false]
                rcases hlist i hi with h | h
                · exact absurd h hij
                · exact hstg i _ _ _ hR (inv.facts i h hin)
            · intro i o d hi hin hio hd
              by_cases hij:i=j
              · subst hij
                obtain rfl:o=oj:=Option.some.inj (hio.symm.trans hoj)
                rw [hd,Qdy _ _ _ (by rw [inv.asize,hN]; exact Qgg (l.take n) hdst i o d (by rw [hget i hin]; exact hoj') hd)]
                simp
              · simp only [hij,if_false]
                rcases hlist i hi with h | h
                · exact absurd h hij
                · rw [Qcg _ _ _ _ (Qgf (l.take n) hdst i j o oj d (by rw [hget i hin]; simpa using hio) (by rw [hget j hjn]; exact hoj') hij hd)]
                  exact inv.vals i o d h hin hio hd
            · intro t ht
              rw [Qcg _ _ _ _ (ht j oj (by simp [Array.getElem?_setIfInBounds_self_of_lt hjs]) hjn hoj)]
              exact inv.rest t fun i o hi hin hio=>ht i o (getD_set_true hi) hin hio
            · intro i hi
              rw [getD_set_ne false (by omega)]
              exact inv.tail i hi
            · have:=Qg2 hju inv.size
              omega
          refine QdH hoj hfn ?_
          rw [Qc6 hg']
          by_cases hb:gOk s.guard (slots a)=true
          · rw [if_pos hb]
            refine QfW (R:=R) (W:=W) (φ:=E.getD j fun _ _=>True) (hnd oj (List.mem_of_getElem? hoj')) hfn hdp hC (fun {_ _ _} h1 h2=>htr h1 h2) ?_ next
            cases hgd':s.guard with
            | none=>rw [hgd'] at hopj; exact hopj
            | some db =>
              rw [hgd'] at hopj hb
              exact (if_pos hb).mp hopj
          · rw [if_neg hb]
            refine next undef W (hrf W) ?_
            cases hgd':s.guard with
            | none=>rw [hgd'] at hb; exact absurd rfl hb
            | some db =>
              rw [hgd'] at hopj hb
              exact (if_neg hb).mp hopj
  exact main
def Qfp (Fe : Fence) (nf:Nat) {P:Program} {R:World→World→Prop} {Q:Exit→Act→World→Prop} {a:Act} {w:World} {l:List Oper} {n:Nat} (F:List Fact→Prop):Prop :=
  ∀ E,(∀ W,R w.drew W→fin (fun a W=>wpListIn Fe nf P l.toArray Q (l.drop n) a W) (l.take n) E a W)→F E
theorem Qfp.out {P : Program} {R:World→World→Prop} {Q:Exit→Act→World→Prop} {a:Act} {w:World} {l:List Oper} {n:Nat} {F:List Fact→Prop} (h:Qfp Fe nf (P:=P) (R:=R) (Q:=Q) (a:=a) (w:=w) (l:=l) (n:=n) F) {E:List Fact}
    (k:∀ W,R w.drew W→fin (fun a W=>wpListIn Fe nf P l.toArray Q (l.drop n) a W) (l.take n) E a W):F E:=h E k
theorem QdI {id : Nat} {Q:Exit→Act→World→Prop} {a:Act} {w:World} {l:List Oper} (R:World→World→Prop) (n N:Nat) (S:List Srq) (hfn:∀ f,Fe.fn f) (hdp:Fe.depth.isSome=true→1≤nf) (hC:∀ {f:FuncId} {args:Array Value} {w:World} {T:Ending→World→Prop},Calls P f args w T→CallsIn Fe (nf-1) P f args w T) (hdf:(l.all fun o=>match o.op with | .defer _=>false | _=>true)=true) (hm:P.follows .mixedOrders=true) (hok:ok l n N S=true) (hN:a.tmps.size=N)
    (hrf:∀ a,R a a) (htr:∀ {a b c:World},R a b→R b c→R a c)
    (h:∀ (F:List Fact→Prop) (r0:Tmp→Value),r0=slots a→Qfp Fe nf (P:=P) (R:=R) (Q:=Q) (a:=a) (w:=w) (l:=l) (n:=n) F→relies P R w.drew r0 F (l.take n) S []):(Code.region id l.toArray true).wpIn Fe nf P Q a w:=by
  have hnd:∀ o∈l,∀ c,o.op≠.defer c:=fun o ho c hc=>by
    have:=List.all_eq_true.1 hdf o ho
    rw [hc] at this
    cases this
  have hok':=hok
  simp only [ok,Bool.and_eq_true,decide_eq_true_eq] at hok'
  obtain ⟨⟨⟨⟨⟨hn,hsrc⟩,hdst⟩,hedge⟩,htail⟩,hdt⟩:=hok'
  obtain ⟨E,hl,_,hst,hop,hfin⟩:=Qc7 (M:=masks l #[]) (l.take n) S [] (h (fun E=>∀ W,R w.drew W→fin (fun a W=>wpListIn Fe nf P l.toArray Q (l.drop n) a W) (l.take n) E a W) _ rfl (show Qfp Fe nf _ from fun _ h=>h)) hsrc (fun _ h=>by cases h)
  refine wpIn_region_any hm ?_
  have hcount:l.toArray.size=left l.toArray (Array.replicate l.toArray.size false):=by
    unfold left
    have:∀ m,m≤l.toArray.size→(List.range m).countP (fun i=>!(Array.replicate l.toArray.size false).getD i true)=m:=by
      intro m
      induction m with
      | zero=>intro _; simp
      | succ m ih =>
        intro hm
        rw [List.range_succ,List.countP_append,ih (by omega),List.countP_singleton]
        have:(Array.replicate l.toArray.size false).getD m true=false:=by simp at hm ⊢; simp [show m<l.length by omega]
        simp only [this,Bool.not_false,if_true]
    exact (this _ (qR _)).symm
  refine QdW (R:=R) (w0:=w.drew) (a0:=a) hfn hdp hC hnd hok hN hrf htr (by simpa using hl) hst (fun j o s hj hs=>by simpa using hop j o s hj hs) hfin _ _ a _ (fun _=>undef) ⟨by simp,?_,hrf _,rfl,rfl,?_,?_,?_,?_⟩ hcount
  · intro j o ho hl
    rw [getD_replicate_false] at hl; cases hl
  · intro i hi; rw [getD_replicate_false] at hi; cases hi
  · intro i o d hi; rw [getD_replicate_false] at hi; cases hi
  · intro t _; rfl
  · intro i _; exact getD_replicate_false _ _
end
end Go.Proofs.YthfkppjajmjpnaaDoor.Rely
end
section
namespace Go.Proofs.YthfkppjajmjpnaaDoor.Auto
open Go Go.RowKit
open Rely
abbrev Env := List (Nat × Value)
def get (L : Env) (t:Nat):Value:=match L with | []=>undef | (k,v)::r=>bif Nat.beq k t then v else get r t
def envN (N : Nat) (L:Env) (t:Nat):Value:=bif Nat.blt t N then get L t else undef
def Qa3 (ds : List Deferred) (N:Nat) (L:Env):Act:={ tmps:=Array.ofFn (n:=N) fun t=>get L t.1,defers:=ds }
variable {ds : List Deferred}
theorem QbD (N : Nat) (L:Env):slots (Qa3 ds N L)=envN N L:=by
  funext t
  unfold slots Qa3 envN
  by_cases h:t<N
  · have:Nat.blt t N=true:=by simpa using h
    simp [this,h]
  · have:Nat.blt t N=false:=by
      cases hh:Nat.blt t N with
      | false=>rfl
      | true=>exact absurd (by simpa using hh) h
    simp [this,h]
theorem Qbj (N : Nat) (L:Env):(Qa3 ds N L).eval=Rely.look (envN N L):=by rw [Qet,QbD]
theorem Qds (N : Nat) (L:Env):(Qa3 ds N L).tmps.size=N:=by simp [Qa3]
theorem Qbb (N : Nat) (L:Env) (d:Nat) (v:Value):(Qa3 ds N L).put (some d) v=Qa3 ds N ((d,v)::L):=by
  show (⟨(Array.ofFn (n:=N) fun t=>get L t.1).setIfInBounds d v,ds⟩:Act)=⟨Array.ofFn (n:=N) fun t=>get ((d,v)::L) t.1,ds⟩
  congr 1
  apply Array.ext
  · simp
  · intro i h1 h2
    simp only [Array.size_setIfInBounds,Array.size_ofFn] at h1
    by_cases hd:d=i
    · subst hd
      simp [get]
    · rw [Array.getElem_setIfInBounds_ne (by simpa using h1) hd]
      have:Nat.beq d i=false:=by
        cases h:Nat.beq d i with
        | false=>rfl
        | true=>exact absurd (Nat.eq_of_beq_eq_true h) hd
      simp [get,this]
def up (d : Option Nat) (v:Value) (L:Env):Env:=match d with | some t=>(t,v)::L | none=>L
theorem QhD (N : Nat) (L:Env) (d:Option Nat) (v:Value):(Qa3 ds N L).put d v=Qa3 ds N (up d v L):=by
  cases d
  · rfl
  · exact Qbb _ _ _ _
def Qda : List Value→Nat→Env
  | [],_=>[]
  | v::r,k=>(k,v)::Qda r (k+1)
theorem QgC : ∀ (l:List Value) (k t:Nat),get (Qda l k) t=if k≤t then l.getD (t-k) undef else undef
  | [],k,t=>by simp [Qda,get]
  | v::r,k,t=>by
    rw [Qda,get]
    by_cases h:k=t
    · subst h
      simp
    · have hb:Nat.beq k t=false:=by
        cases hh:Nat.beq k t with
        | false=>rfl
        | true=>exact absurd (Nat.eq_of_beq_eq_true hh) h
      rw [hb,cond_false,QgC r (k+1) t]
      by_cases h1:k+1≤t
      · rw [if_pos h1,if_pos (by omega),show t-k=(t-(k+1))+1 by omega]
        simp
      · rw [if_neg h1,if_neg (by omega)]
theorem entry (args : Array Value) (N:Nat) (h:args.size≤N):({ tmps:=args++Array.replicate (N-args.size) undef,defers:=[] }:Act)=Qa3 [] N (Qda args.toList 0):=by
  unfold Qa3
  congr 1
  apply Array.ext
  · simp; omega
  · intro i h1 h2
    simp only [Array.getElem_ofFn,QgC,Nat.zero_le,if_true,Nat.sub_zero]
    by_cases hi:i<args.size
    · rw [Array.getElem_append_left hi]
      simp [hi]
    · rw [Array.getElem_append_right (by omega)]
      simp [hi]
theorem enter {P : Program} {f:FuncId} {fn:Func} {c:Code} {args:Array Value} {w:World} {R:Ending→World→Prop} (N:Nat) (L:Env)
    (hf:P.funcs[f]? = some fn) (hb:fn.body=some c) (hn:fn.ntmps=N) (hs:Nat.ble args.size N=true) (hL:Qda args.toList 0=L)
    (h:c.wp P (bodyPost P fn R) (Qa3 [] N L) w):Calls P f args w R:=by
  subst hn
  subst hL
  refine calls_of_wp hf hb ?_
  rw [entry _ _ (by simpa using hs)]
  exact h
def Qbu (ops : Array Oper) (o:Oper) (N:Nat) (L:Env):Option Bool :=
  match Qd4 ops o with
  | some g=>some (gOk g (envN N L))
  | none=>none
theorem QbS {ops : Array Oper} {o:Oper} {N:Nat} {L:Env} {b:Bool} (h:Qbu ops o N L=some b):Region.wanted o (yielded ops (Qa3 ds N L).tmps)=b:=by
  unfold Qbu at h
  split at h
  · rename_i g hg
    rw [Qc6 hg,QbD]
    exact Option.some.inj h
  · cases h
structure WL (P : Program) (ops : Array Oper) (Q : Exit → Act → World → Prop) (rest : List Oper) (a : Act) (w : World) : Prop where
  out:wpList P ops Q rest a w
theorem Qab {P : Program} {Q:Exit→Act→World→Prop} {a:Act} {w:World} {id:Nat} {l:List Oper} (h:WL P l.toArray Q l a w):(Code.region id l.toArray false).wp P Q a w:=wp_region_lit h.out
section
variable {P : Program} {ops : Array Oper} {Q : Exit → Act → World → Prop} {rest : List Oper} {o : Oper} {N : Nat} {L : Env} {w : World}
theorem Qfw (hg : Qbu ops o N L=some true) (h:∀ K:Act→World→Prop,(∀ a w,WL P ops Q rest a w→K a w)→o.upon P (Qa3 ds N L) K Q ((execOp (Rely.look (envN N L)) o).run P w)):WL P ops Q (o::rest) (Qa3 ds N L) w :=
  ⟨wpList_step fun K hK=>by
    rw [if_pos (QbS hg)]
    unfold Oper.wp
    rw [Qbj]
    exact h K fun a w hh=>hK a w hh.out⟩
theorem Qad (d : Nat) (hd:o.dst=some d) (hg:Qbu ops o N L=some false) (k:WL P ops Q rest (Qa3 ds N ((d,undef)::L)) w):WL P ops Q (o::rest) (Qa3 ds N L) w :=
  ⟨wpList_step fun K hK=>by
    rw [if_neg (by rw [QbS hg]; decide),hd,Qbb]
    exact hK _ _ k.out⟩
theorem Qaa (v : Value) (d:Nat) (hd:o.dst=some d) (hg:Qbu ops o N L=some true) (h:(execOp (Rely.look (envN N L)) o).run P w=.ok (.value v) w) (k:WL P ops Q rest (Qa3 ds N ((d,v)::L)) w):WL P ops Q (o::rest) (Qa3 ds N L) w :=
  Qfw hg fun K hK=>by
    rw [h]
    show K _ _
    rw [hd,Qbb]
    exact hK _ _ k
theorem QbI (v : Value) (w':World) (d:Nat) (hd:o.dst=some d) (hg:Qbu ops o N L=some true) (h:(execOp (Rely.look (envN N L)) o).run P w=.ok (.value v) w') (k:WL P ops Q rest (Qa3 ds N ((d,v)::L)) w'):WL P ops Q (o::rest) (Qa3 ds N L) w :=
  Qfw hg fun K hK=>by
    rw [h]
    show K _ _
    rw [hd,Qbb]
    exact hK _ _ k
theorem Qdh (w' : World) (hd:o.dst=none) (hg:Qbu ops o N L=some true) (h:(execOp (Rely.look (envN N L)) o).run P w=.ok .skip w') (k:WL P ops Q rest (Qa3 ds N L) w'):WL P ops Q (o::rest) (Qa3 ds N L) w :=
  Qfw hg fun K hK=>by
    rw [h]
    show K _ _
    rw [hd]
    exact hK _ _ k
theorem Qan (cs : Array Value) (T:TypeId) (d:Nat) (hd:o.dst=some d) (hg:Qbu ops o N L=some true) (h:(execOp (Rely.look (envN N L)) o).run P w=.ok (.value (.pointer (some ⟨w.heap.size,0,none⟩))) (w.alloc (.cells cs T)))
    (k:∀ (g:Nat) (W:World),w.heap.size≤g→Ext w W→W.heap[g]? = some (.cells cs T)→WL P ops Q rest (Qa3 ds N ((d,.pointer (some ⟨g,0,none⟩))::L)) W):WL P ops Q (o::rest) (Qa3 ds N L) w :=
  QbI _ _ d hd hg h (k _ _ (qR _) (Qck _ _) (heap_alloc_new _ _))
theorem Qal (v : Value) (f:FuncId) (args:Array Value) (d:Nat) (hd:o.dst=some d) (hg:Qbu ops o N L=some true) (h:(execOp (Rely.look (envN N L)) o).run P w=.ok (.enter f args) w)
    (hc:Calls P f args w (Ret w v)) (k:∀ W:World,Ext w W→WL P ops Q rest (Qa3 ds N ((d,v)::L)) W):WL P ops Q (o::rest) (Qa3 ds N L) w :=
  Qfw hg fun K hK=>by
    rw [h]
    refine hc.mono ?_
    rintro e w' ⟨rfl,hw⟩
    show K _ _
    rw [hd,Qbb]
    exact hK _ _ (k _ hw)
theorem Qa1 (R : Value→World→Prop) (f:FuncId) (args:Array Value) (d:Nat) (hd:o.dst=some d) (hg:Qbu ops o N L=some true) (h:(execOp (Rely.look (envN N L)) o).run P w=.ok (.enter f args) w)
    (hc:Calls P f args w fun e w'=>∃ v,e=.returned v∧R v w') (k:∀ (v:Value) (W:World),R v W→WL P ops Q rest (Qa3 ds N ((d,v)::L)) W):WL P ops Q (o::rest) (Qa3 ds N L) w :=
  Qfw hg fun K hK=>by
    rw [h]
    refine hc.mono ?_
    rintro e w' ⟨v,rfl,hw⟩
    show K _ _
    rw [hd,Qbb]
    exact hK _ _ (k _ _ hw)
theorem Qaf (k : Q .normal (Qa3 ds N L) w):WL P ops Q [] (Qa3 ds N L) w:=⟨k⟩
end
def Puts (w : World) (g:Nat) (W:World):Prop:=W.os=w.os∧W.tape=w.tape∧W.output=w.output∧W.heap.size=w.heap.size∧∀ k,k≠g→W.heap[k]? = w.heap[k]?
theorem QcQ (w : World) (g:Nat) (cs:Array Value):Puts w g (w.setRow g cs):=⟨rfl,rfl,rfl,by simp,fun k hk=>setRow_other _ _ _ _ hk⟩
theorem Puts.row {w W:World} {g k:Nat} {ob:Obj} (h:Puts w g W) (hk:w.heap[k]? = some ob) (hn:k≠g):W.heap[k]? = some ob:=(h.2.2.2.2 k hn).trans hk
theorem Puts.ext {w0 w W:World} {g:Nat} (h:Puts w g W) (he:Ext w0 w) (hg:w0.heap.size≤g):Ext w0 W :=
  ⟨h.1.trans he.os,h.2.1.trans he.tape,h.2.2.1.trans he.output,by have:=he.size; have:=h.2.2.2.1; omega,fun k hk=>(h.2.2.2.2 k (by omega)).trans (he.block k hk)⟩
theorem Ext.tr {a b c:World} (h:Ext a b) (k:Ext b c):Ext a c:=Rely.Ext.trans h k
theorem Qay {w : World} {k g:Nat} {ob:Obj} (hk:w.heap[k]? = some ob) (hg:w.heap.size≤g):k≠g:=by
  have:=Qa5 hk
  omega
theorem QfB {w : World} {k g:Nat} {ob:Obj} (hk:w.heap[k]? = some ob) (hg:w.heap.size≤g):g≠k:=by
  have:=Qa5 hk
  omega
def aggB : TypeDesc→Bool
  | .struct _=>true
  | .array _ _=>true
  | _=>false
def aggD (P : Program) (ty:TypeId):Option Bool:=(P.underlying ty).map aggB
theorem Qao {P : Program} {ρ:Operand→Value} {o:Oper} {w:World} (ty:TypeId) (x:Operand) (g off:Nat) (t:TypeId) (cs ps:Array Value) (fr:Nat×Nat) (hg:w.heap[g]? = some (.cells cs t fr))
    (ho:o.op=.load ty x) (hx:ρ x=.pointer (some ⟨g,off,none⟩)) (hp:∀ j v,ps[j]? = some v→cs[off+j]? = some v) (hu:aggD P ty=some true) (hi:(P.info? ty).map (·.size)=some ps.size) :
    (execOp ρ o).run P w=.ok (.value (.agg ps)) w:=by
  unfold aggD at hu
  cases hd:P.underlying ty with
  | none=>rw [hd] at hu; cases hu
  | some d =>
    rw [hd] at hu
    have hdd:aggB d=true:=Option.some.inj hu
    have:=QdL w g off t ty cs ps fr d hg hp hd (by cases d <;> first | rfl | cases hdd) hi
    unfold execOp
    simp only [ho,hx,Instr.loadAt,Instr.sureAddr,Sem.run_bind,Sem.run_pure,Result.andThen_ok,this]
theorem Qa4 {P : Program} {ρ:Operand→Value} {o:Oper} {w:World} (ty:TypeId) (x:Operand) (g:Nat) (t:TypeId) (cs:Array Value) (fr:Nat×Nat) (hg:w.heap[g]? = some (.cells cs t fr))
    (ho:o.op=.load ty x) (hx:ρ x=.pointer (some ⟨g,0,none⟩)) (hu:aggD P ty=some true) (hi:(P.info? ty).map (·.size)=some cs.size) :
    (execOp ρ o).run P w=.ok (.value (.agg cs)) w :=
  Qao ty x g 0 t cs cs fr hg ho hx (fun j v h=>by rw [Nat.zero_add]; exact h) hu hi
theorem Qag {P : Program} {ρ:Operand→Value} {o:Oper} {w:World} (ty:TypeId) (x:Operand) (g off:Nat) (t:TypeId) (cs:Array Value) (v:Value) (fr:Nat×Nat) (hg:w.heap[g]? = some (.cells cs t fr))
    (ho:o.op=.load ty x) (hx:ρ x=.pointer (some ⟨g,off,none⟩)) (hp:cs[off]? = some v) (hu:aggD P ty=some false) :
    (execOp ρ o).run P w=.ok (.value v) w:=by
  unfold aggD at hu
  cases hd:P.underlying ty with
  | none=>rw [hd] at hu; cases hu
  | some d =>
    rw [hd] at hu
    have hdd:aggB d=false:=Option.some.inj hu
    have hc:w.cell? ⟨g,off,none⟩=some v:=(cell_of_row w g off cs t fr hg).trans hp
    have hagg:(isAgg ty).run P w=.ok false w:=by
      unfold isAgg
      rw [Sem.run_bind,run_underlying hd w]
      cases d <;> first | rfl | cases hdd
    unfold execOp
    simp [ho,hx,Instr.loadAt,Instr.sureAddr,loadVar,hagg,hc]
def sp (cur : Array Value) (k:Nat) (vs:List Value):Array Value:=splice cur k vs
theorem Qas {P : Program} {ρ:Operand→Value} {o:Oper} {w:World} (ty:TypeId) (x y:Operand) (g:Nat) (t:TypeId) (old cells:Array Value) (hg:w.heap[g]? = some (.cells old t))
    (ho:o.op=.store ty x y) (hx:ρ x=.pointer (some ⟨g,0,none⟩)) (hy:ρ y=.agg cells) (hi:(P.info? ty).map (·.size)=some cells.size) (hs:old.size=cells.size) (h1:cells.all (·.oneCell')=true) :
    (execOp ρ o).run P w=.ok .skip (w.setRow g cells):=by
  unfold execOp
  simp only [ho,hx,hy,Instr.storeAt,Instr.sureAddr,Sem.run_bind,Sem.run_pure,Result.andThen_ok,run_storeVar_row w g t ty old cells hg hi hs h1]
theorem QaW {P : Program} {ρ:Operand→Value} {o:Oper} {w:World} (ty:TypeId) (x y:Operand) (g off:Nat) (t:TypeId) (old:Array Value) (v:Value) (hg:w.heap[g]? = some (.cells old t))
    (ho:o.op=.store ty x y) (hx:ρ x=.pointer (some ⟨g,off,none⟩)) (hy:ρ y=v) (hi:(P.info? ty).map (·.size)=some 1) (hs:Nat.blt off old.size=true) (h1:v.oneCell'=true) (hcs:v.cells=#[v]) :
    (execOp ρ o).run P w=.ok .skip (w.setRow g (old.setIfInBounds off v)):=by
  have hlt:off<old.size:=by simpa using hs
  have hcell:w.cell? ⟨g,off,none⟩=some old[off]:=by simp [World.cell?,hg,hlt]
  have hfro:w.frozen? ⟨g,off,none⟩=false:=by simp [World.frozen?,hg]
  cases hq:P.info? ty with
  | none=>simp [hq] at hi
  | some i =>
    have hs':i.size=1:=by simpa [hq] using hi
    have hst:(store (⟨g,off,none⟩:Addr) v).run P w=.ok () (w.setRow g (old.setIfInBounds off v)):=by
      rw [run_store P w _ v _ h1,hcell]
      simp [hfro,setCell_eq_setRow w g off old t (0,0) v hg]
    have hadd:(⟨g,off,none⟩:Addr).add 0=⟨g,off,none⟩:=by unfold Addr.add; split <;> simp_all
    unfold execOp
    simp [ho,hx,hy,Instr.storeAt,Instr.sureAddr,storeVar,sizeOf,typeInfo,hq,hs',hcs,storeCells,hadd,hst]
section
variable {P : Program} {ops : Array Oper} {Q : Exit → Act → World → Prop} {rest : List Oper} {o : Oper} {N : Nat} {L : Env} {w : World}
theorem Qau (g : Nat) (old cs:Array Value) (t:TypeId) (hg:w.heap[g]? = some (.cells old t)) (hd:o.dst=none) (hw:Qbu ops o N L=some true) (h:(execOp (Rely.look (envN N L)) o).run P w=.ok .skip (w.setRow g cs))
    (k:∀ W:World,Puts w g W→W.heap[g]? = some (.cells cs t)→WL P ops Q rest (Qa3 ds N L) W):WL P ops Q (o::rest) (Qa3 ds N L) w :=
  Qdh _ hd hw h (k _ (QcQ _ _ _) (setRow_heap _ _ _ _ _ _ hg))
end
def envS (N : Nat) (L:Env) (C:List Value):List (Tmp×Option Nat)→Env
  | []=>[]
  | (t,some i)::r=>(t,C.getD i undef)::envS N L C r
  | (t,none)::r=>(t,envN N L t)::envS N L C r
inductive Kn where
  | is (v:Value)
  | new (cs:Array Value) (T:TypeId)
def Kn.fact (base : Nat):Kn→Fact
  | .is c=>fun v _=>v=c
  | .new cs T=>fun v W=>∃ g,v=.pointer (some ⟨g,0,none⟩)∧base≤g∧W.heap[g]? = some (.cells cs T)
def Kn.val : Kn→Value
  | .is c=>c
  | .new _ _=>undef
theorem Kn.stable (base : Nat) (k:Kn):Qb6 Ext (k.fact base):=by
  cases k with
  | is c=>exact fun _ _ _ _ h=>h
  | new cs T=>exact fun v W W' hR ⟨g,h1,h2,h3⟩=>⟨g,h1,h2,Qah h3 hR⟩
def steps (P : Program) (w0:World) (base:Nat) (N:Nat) (L:Env) (F:List Kn→Prop):List Oper→List Srq→List Kn→Prop
  | o::os,s::ss,C=>∃ k:Kn,opOk P Ext w0 (envN N L) (C.map (Kn.fact base)) o s (k.fact base)∧steps P w0 base N L F os ss (C++[k])
  | _,_,C=>F C
theorem Qd7 {P : Program} {w0:World} {base N:Nat} {L:Env} {F:List Kn→Prop} {G:List Fact→Prop} (hFG:∀ C,F C→G (C.map (Kn.fact base))):∀ (os:List Oper) (ss:List Srq) (C:List Kn),steps P w0 base N L F os ss C→relies P Ext w0 (envN N L) G os ss (C.map (Kn.fact base))
  | [],_,C,h=>hFG C (by simpa [steps] using h)
  | _::_,[],C,h=>hFG C (by simpa [steps] using h)
  | o::os,s::ss,C,⟨k,h1,h2⟩=>by
    refine ⟨k.fact base,Kn.stable base k,h1,?_⟩
    have:=Qd7 hFG os ss (C++[k]) h2
    simpa using this
theorem QcK {N : Nat} {L:Env} {base:Nat} {C:List Kn} {ρ:Tmp→Value} {W:World}:∀ (r:List (Tmp×Option Nat)),(r.all fun x=>match x.2 with | some i=>(match C[i]? with | some (.is _)=>true | _=>false) | none=>true)=true →
    Qc4 (envN N L) (C.map (Kn.fact base)) ρ W r→∀ t,(r.any fun x=>Nat.beq x.1 t)=true→ρ t=get (envS N L (C.map Kn.val) r) t
  | [],_,_,t,h=>by simp at h
  | (u,none)::r,ha,hh,t,h=>by
    simp only [List.all_cons,Bool.and_eq_true] at ha
    rw [envS,get]
    by_cases hu:Nat.beq u t=true
    · rw [hu,cond_true,←Nat.eq_of_beq_eq_true hu]
      exact hh.1
    · have hu':Nat.beq u t=false:=by
        cases hb:Nat.beq u t with
        | false=>rfl
        | true=>exact absurd hb hu
      rw [hu',cond_false]
      refine QcK r ha.2 hh.2 t ?_
      simp only [List.any_cons,hu',Bool.false_or] at h
      exact h
  | (u,some i)::r,ha,hh,t,h=>by
    simp only [List.all_cons,Bool.and_eq_true] at ha
    rw [envS,get]
    by_cases hu:Nat.beq u t=true
    · rw [hu,cond_true,←Nat.eq_of_beq_eq_true hu]
      have h1:=hh.1
      have h2:=ha.1
      cases hc:C[i]? with
      | none=>simp [hc] at h2
      | some k =>
        cases k with
        | new cs T=>simp [hc] at h2
        | is c =>
          simp only [List.getD_eq_getElem?_getD,List.getElem?_map,hc,Option.map_some,Option.getD_some,Kn.fact] at h1
          simp [hc,Kn.val,h1]
    · have hu':Nat.beq u t=false:=by
        cases hb:Nat.beq u t with
        | false=>rfl
        | true=>exact absurd hb hu
      rw [hu',cond_false]
      refine QcK r ha.2 hh.2 t ?_
      simp only [List.any_cons,hu',Bool.false_or] at h
      exact h
def seen (C : List Kn) (o:Oper) (s:Srq):Bool :=
  (match o.op with | .select _ _=>false | _=>true) &&
  (s.reads.all fun x=>match x.2 with | some i=>(match C[i]? with | some (.is _)=>true | _=>false) | none=>true) &&
  (o.op.operands.toList.all fun x=>match x with | .tmp t=>s.reads.any fun x=>Nat.beq x.1 t | _=>true) &&
  (match s.guard with | some (d,_)=>s.reads.any fun x=>Nat.beq x.1 d | none=>true)
theorem Qfy {N : Nat} {L:Env} {base:Nat} {C:List Kn} {o:Oper} {s:Srq} {ρ:Tmp→Value} {W:World} (hs:seen C o s=true) (hh:Qc4 (envN N L) (C.map (Kn.fact base)) ρ W s.reads) :
    execOp (Rely.look ρ) o=execOp (Rely.look (get (envS N L (C.map Kn.val) s.reads))) o:=by
  simp only [seen,Bool.and_eq_true] at hs
  obtain ⟨⟨⟨h1,h2⟩,h3⟩,h4⟩:=hs
  refine execOp_congr o (fun cs b hc=>by rw [hc] at h1; cases h1) fun x hx=>?_
  cases x with
  | tmp t =>
    have:=List.all_eq_true.1 h3 (.tmp t) (Array.mem_toList_iff.2 hx)
    exact QcK s.reads h2 hh t this
  | const v=>rfl
  | global g=>rfl
  | func f=>rfl
theorem Qdt {N : Nat} {L:Env} {base:Nat} {C:List Kn} {o:Oper} {s:Srq} {ρ:Tmp→Value} {W:World} (hs:seen C o s=true) (hh:Qc4 (envN N L) (C.map (Kn.fact base)) ρ W s.reads) (p q:Prop) :
    guarded s.guard ρ p q=guarded s.guard (get (envS N L (C.map Kn.val) s.reads)) p q:=by
  simp only [seen,Bool.and_eq_true] at hs
  obtain ⟨⟨⟨h1,h2⟩,h3⟩,h4⟩:=hs
  cases hg:s.guard with
  | none=>rfl
  | some db =>
    obtain ⟨d,b⟩:=db
    rw [hg] at h4
    show (if isB b (ρ d)=true then p else q)=(if isB b (get (envS N L (C.map Kn.val) s.reads) d)=true then p else q)
    rw [QcK s.reads h2 hh d h4]
theorem Qes {g : Option (Tmp×Bool)} {ρ:Tmp→Value} {p q:Prop} (hg:gOk g ρ=true) (h:p):guarded g ρ p q:=by
  cases g with
  | none=>exact h
  | some db=>exact (if_pos hg).mpr h
theorem Qgc {g : Option (Tmp×Bool)} {ρ:Tmp→Value} {p q:Prop} (hg:gOk g ρ=false) (h:q):guarded g ρ p q:=by
  cases g with
  | none=>cases hg
  | some db =>
    unfold guarded
    unfold gOk at hg
    simp only [hg,Bool.false_eq_true,if_false]
    exact h
section
variable {P : Program} {w0 : World} {base N : Nat} {L : Env} {F : List Kn → Prop} {o : Oper} {os : List Oper} {s : Srq} {ss : List Srq} {C : List Kn}
theorem QjP (k : Kn) (hs:seen C o s=true) (hg:gOk s.guard (get (envS N L (C.map Kn.val) s.reads))=true)
    (h:∀ W,Ext w0 W→QcG P Ext W (k.fact base) ((execOp (Rely.look (get (envS N L (C.map Kn.val) s.reads))) o).run P W))
    (hk:steps P w0 base N L F os ss (C++[k])):steps P w0 base N L F (o::os) (s::ss) C :=
  ⟨k,fun ρ W hR hh=>by
    rw [Qdt hs hh]
    refine Qes hg ?_
    unfold Qeh
    rw [Qfy hs hh]
    exact h W hR,hk⟩
theorem QaC (v : Value) (hs:seen C o s=true) (hg:gOk s.guard (get (envS N L (C.map Kn.val) s.reads))=true)
    (h:∀ W,(execOp (Rely.look (get (envS N L (C.map Kn.val) s.reads))) o).run P W=.ok (.value v) W)
    (hk:steps P w0 base N L F os ss (C++[.is v])):steps P w0 base N L F (o::os) (s::ss) C :=
  QjP (.is v) hs hg (fun W _=>by rw [h]; exact ⟨Ext.refl _,rfl⟩) hk
theorem Qby (v : Value) (hs:seen C o s=true) (hg:gOk s.guard (get (envS N L (C.map Kn.val) s.reads))=true)
    (h:∀ W,Ext w0 W→(execOp (Rely.look (get (envS N L (C.map Kn.val) s.reads))) o).run P W=.ok (.value v) W)
    (hk:steps P w0 base N L F os ss (C++[.is v])):steps P w0 base N L F (o::os) (s::ss) C :=
  QjP (.is v) hs hg (fun W hR=>by rw [h W hR]; exact ⟨Ext.refl _,rfl⟩) hk
end
def ups (L : Env):List Oper→List Kn→Env
  | o::os,k::C=>ups (up o.dst k.val L) os C
  | _,_=>L
theorem Qij {Q : Act→World→Prop} {base N:Nat} {W:World}:∀ (os:List Oper) (C:List Kn) (L:Env),(C.all fun k=>match k with | .is _=>true | _=>false)=true→Q (Qa3 ds N (ups L os C)) W→fin Q os (C.map (Kn.fact base)) (Qa3 ds N L) W
  | [],C,L,_,h=>by cases C <;> exact h
  | _::_,[],L,_,h=>h
  | o::os,k::C,L,ha,h=>by
    simp only [List.all_cons,Bool.and_eq_true] at ha
    intro v hv
    cases k with
    | new _ _=>simp at ha
    | is c =>
      obtain rfl:v=c:=hv
      rw [QhD]
      exact Qij os C _ ha.2 h
theorem QcM {P : Program} {id:Nat} {Q:Exit→Act→World→Prop} {N:Nat} {L:Env} {w:World} {l:List Oper} (n:Nat) (S:List Srq) (hm:P.follows .mixedOrders=true) (hok:ok l n N S=true)
    (h:∀ F:List Kn→Prop,(∀ C,(C.all fun k=>match k with | .is _=>true | _=>false)=true→(∀ W,Ext w W→WL P l.toArray Q (l.drop n) (Qa3 ds N (ups L (l.take n) C)) W)→F C)→steps P w.drew 0 N L F (l.take n) S []) :
    (Code.region id l.toArray true).wp P Q (Qa3 ds N L) w:=by
  refine QcO Ext n N S hm hok (Qds N L) Ext.refl Ext.trans fun F r0 hr hF=>?_
  rw [QbD] at hr
  subst hr
  have:=h (fun C=>(C.all fun k=>match k with | .is _=>true | _=>false)=true∧∀ W,Ext w W→WL P l.toArray Q (l.drop n) (Qa3 ds N (ups L (l.take n) C)) W) (fun C h1 h2=>⟨h1,h2⟩)
  exact Qd7 (F:=fun C=>(C.all fun k=>match k with | .is _=>true | _=>false)=true∧∀ W,Ext w W→WL P l.toArray Q (l.drop n) (Qa3 ds N (ups L (l.take n) C)) W) (G:=F)
    (fun C h=>hF.out fun W hR=>Qij (Q:=fun a W=>wpList P l.toArray Q (l.drop n) a W) _ _ _ h.1 (h.2 W (Rely.Ext.trans (Qax w) hR)).out) _ _ [] this
end Go.Proofs.YthfkppjajmjpnaaDoor.Auto
end
section
namespace Go.Proofs.YthfkppjajmjpnaaDoor.Auto
open Go Go.RowKit
open Rely
variable {ds : List Deferred}
def cat : List (Array Value)→Array Value
  | []=>#[]
  | [a]=>a
  | a::b::r=>a++cat (b::r)
theorem Qac (a : Array Value) (r:List (Array Value)):cat (a::r)=a++cat r:=by
  cases r with
  | nil=>simp [cat]
  | cons b r=>rfl
theorem QaA : ∀ l r:List (Array Value),cat (l++r)=cat l++cat r
  | [],r=>by simp [cat]
  | a::l,r=>by rw [List.cons_append,Qac,Qac,QaA l r,Array.append_assoc]
theorem Qaj (pre mid post:List (Array Value)) (off:Nat) (h:(cat pre).size=off):∀ j v,(cat mid)[j]? = some v→(cat (pre++(mid++post)))[off+j]? = some v:=fun j v hv=>by
  subst h
  have hj:j<(cat mid).size:=(Array.getElem?_eq_some_iff.1 hv).1
  rw [QaA,QaA,Array.getElem?_append_right (by omega),Nat.add_sub_cancel_left,Array.getElem?_append_left hj]
  exact hv
theorem QeH (pre mid new post:List (Array Value)) (off:Nat) (h:(cat pre).size=off) (hs:(cat new).size=(cat mid).size):splice (cat (pre++(mid++post))) off (cat new).toList=cat (pre++(new++post)):=by
  subst h
  apply Array.ext_getElem?
  intro j
  rw [Qe6 _ _ _ (by simp [QaA]; omega)]
  simp only [QaA,Array.length_toList]
  by_cases h1:(cat pre).size≤j
  · by_cases h2:j<(cat pre).size+(cat new).size
    · rw [if_pos ⟨h1,h2⟩,Array.getElem?_append_right h1,Array.getElem?_append_left (by omega)]
      simp
    · rw [if_neg (by omega),Array.getElem?_append_right h1,Array.getElem?_append_right h1,Array.getElem?_append_right (by omega),Array.getElem?_append_right (by omega),hs]
  · rw [if_neg (by omega),Array.getElem?_append_left (by omega),Array.getElem?_append_left (by omega)]
theorem Qbm : ∀ l:List (Array Value),(∀ a∈l,a.all (·.oneCell')=true)→(cat l).all (·.oneCell')=true
  | [],_=>by simp [cat]
  | a::r,h=>by
    rw [Qac,Array.all_append,h a List.mem_cons_self,Qbm r fun b hb=>h b (List.mem_cons_of_mem _ hb)]
    rfl
def okPl (pl : Nat→Option (Nat×Nat)):Nat→List (Nat×Nat×Value×Array Value)→Prop
  | _,[]=>True
  | off,(i,n,v,p)::r=>pl i=some (off,n)∧v.cells=p∧p.size=n∧okPl pl (off+n) r
def tot : List (Nat×Nat×Value×Array Value)→Nat
  | []=>0
  | (_,n,_,_)::r=>n+tot r
theorem QcD : ∀ (l:List Value) (k off:Nat) (cs:Array Value),(l.zipIdx k).foldl (fun cs (x:Value×Nat)=>cs.setIfInBounds (off+x.2) x.1) cs=splice cs (off+k) l
  | [],_,_,_=>rfl
  | v::r,k,off,cs=>by
    rw [List.zipIdx_cons,List.foldl_cons,QcD r (k+1) off,splice]
    rfl
section
variable {P : Program} {Q : Exit → Act → World → Prop} {w : World} {N : Nat} {L : Env}
theorem cond_true {c : Operand} {x y:Code} (hc:Rely.look (envN N L) c=.bool true) (h:x.wp P Q (Qa3 ds N L) w):(Code.cond c x y).wp P Q (Qa3 ds N L) w:=wp_cond_true (by rw [Qbj]; exact hc) h
theorem cond_false {c : Operand} {x y:Code} (hc:Rely.look (envN N L) c=.bool false) (h:y.wp P Q (Qa3 ds N L) w):(Code.cond c x y).wp P Q (Qa3 ds N L) w:=wp_cond_false (by rw [Qbj]; exact hc) h
theorem Qar {c : Operand} {x y:Code} {t:Bool} (hc:Rely.look (envN N L) c=.bool t) (ht:t=true→x.wp P Q (Qa3 ds N L) w) (hf:t=false→y.wp P Q (Qa3 ds N L) w):(Code.cond c x y).wp P Q (Qa3 ds N L) w:=wp_cond_split (by rw [Qbj]; exact hc) ht hf
end
def Qew (P : Program) (w:World) (N:Nat) (L:Env):ResultVar→Value→Prop
  | .tmp t,v=>envN N L t=v
  | .cell a t,v=>∃ A,envN N L a=.pointer (some A)∧(loadVar t A).run P w=.ok v w
theorem Qaq {P : Program} {w:World} {N:Nat} {L:Env} {t:Tmp} {v:Value} (h:envN N L t=v):Qew P w N L (.tmp t) v:=h
theorem Qb8 {P : Program} {w:World} {N:Nat} {L:Env} {a:Tmp} {ty:TypeId} (g:Nat) (t:TypeId) (cs:Array Value) (hg:w.heap[g]? = some (.cells cs t)) (ha:envN N L a=.pointer (some ⟨g,0,none⟩)) (hu:aggD P ty=some true) (hi:(P.info? ty).map (·.size)=some cs.size) :
    Qew P w N L (.cell a ty) (.agg cs):=by
  refine ⟨_,ha,?_⟩
  unfold aggD at hu
  cases hd:P.underlying ty with
  | none=>rw [hd] at hu; cases hu
  | some d =>
    rw [hd] at hu
    have hdd:aggB d=true:=Option.some.inj hu
    exact run_loadVar_row w g t ty cs (0,0) d hg hd (by cases d <;> first | rfl | cases hdd) hi
theorem QeG (ds : List Deferred) (N:Nat) (L:Env) (t:Nat):(Qa3 ds N L).tmps.getD t undef=envN N L t:=by rw [←QbD]; rfl
def QjE (tmps : Array Value):ResultVar→Sem Value:=fun
    | .tmp t=>pure (tmps.getD t undef)
    | .cell a t=>do loadVar t (←asAddr (tmps.getD a undef))
theorem Qdu {P : Program} {w:World} {N:Nat} {L:Env} {r:ResultVar} {v:Value} (h:Qew P w N L r v):(QjE (Qa3 ds N L).tmps r).run P w=.ok v w:=by
  cases r with
  | tmp t =>
    have h':envN N L t=v:=h
    show (pure ((Qa3 ds N L).tmps.getD t undef):Sem Value).run P w=_
    rw [QeG ds,h']
    rfl
  | cell a t =>
    obtain ⟨A,h1,h2⟩:=h
    show (do loadVar t (←asAddr ((Qa3 ds N L).tmps.getD a undef)):Sem Value).run P w=_
    rw [QeG ds,h1]
    simp [asAddr,h2]
theorem Qdw (fn : Func) (tmps:Array Value):results fn tmps=(do let vs ←fn.results.mapM (QjE tmps); pure (if h:vs.size=1 then vs[0] else .tuple vs)):=rfl
section
variable {P : Program} {fn : Func} {R : Ending → World → Prop} {N : Nat} {L : Env} {w : World}
theorem Qd8 {r : ResultVar} {v:Value} (hr:fn.results=#[r]) (h:Qew P w N L r v):(results fn (Qa3 ds N L).tmps).run P w=.ok v w:=by
  rw [Qdw,hr]
  simp [Qdu h]
theorem Qf0 {r s:ResultVar} {u v:Value} (hr:fn.results=#[r,s]) (h:Qew P w N L r u) (k:Qew P w N L s v):(results fn (Qa3 ds N L).tmps).run P w=.ok (.tuple #[u,v]) w:=by
  rw [Qdw,hr]
  simp [Qdu h,Qdu k,Sem.run_bind]
theorem Qd9 (hr : fn.results=#[]):(results fn (Qa3 ds N L).tmps).run P w=.ok (.tuple #[]) w:=by
  rw [Qdw,hr]
  simp
theorem ret1 {r : ResultVar} (v:Value) (hr:fn.results=#[r]) (h:Qew P w N L r v) (k:R (.returned v) w):bodyPost P fn R .ret (Qa3 [] N L) w:=bodyPost_ret (Qd8 hr h) rfl k
theorem ret2 {r s:ResultVar} (u v:Value) (hr:fn.results=#[r,s]) (h:Qew P w N L r u) (h2:Qew P w N L s v) (k:R (.returned (.tuple #[u,v])) w):bodyPost P fn R .ret (Qa3 [] N L) w:=bodyPost_ret (Qf0 hr h h2) rfl k
theorem end0 (hr : fn.results=#[]) (k:R (.returned (.tuple #[])) w):bodyPost P fn R .normal (Qa3 [] N L) w:=bodyPost_end (Qd9 hr) rfl k
theorem ret0 (hr : fn.results=#[]) (k:R (.returned (.tuple #[])) w):bodyPost P fn R .ret (Qa3 [] N L) w:=bodyPost_ret (Qd9 hr) rfl k
end
theorem Qdf {P : Program} {w0:World} {base N:Nat} {L:Env} {F:List Kn→Prop} {ss:List Srq} {C:List Kn} (h:F C):steps P w0 base N L F [] ss C:=by cases ss <;> exact h
theorem isz {P : Program} {ty:TypeId} {cs:Array Value} {n:Nat} (h:(P.info? ty).map (·.size)=some n) (hs:cs.size=n):(P.info? ty).map (·.size)=some cs.size:=by rw [h,hs]
theorem eqsz {a b:Array Value} {n:Nat} (ha:a.size=n) (hb:b.size=n):a.size=b.size:=ha.trans hb.symm
end Go.Proofs.YthfkppjajmjpnaaDoor.Auto
end
section
namespace Go.Proofs.YthfkppjajmjpnaaDoor.Auto
open Go Go.RowKit
open Rely
variable {ds : List Deferred}
def isT (l : List Oper) (j:Nat):Bool:=match l[j]? with | some o=>o.dst.isNone | none=>false
section
variable {P : Program} {Rd : World → Prop} {w0 : World} {base N : Nat} {L : Env}
structure InvT (l : List Oper) (a0 : Act) (listed : Array Bool) (a : Act) (vs : Nat → Value) (C : List Kn) (U : List Nat) : Prop where
  size:listed.size=l.length
  closed:Qcm l.toArray listed
  defers:a.defers=a0.defers
  asize:a.tmps.size=a0.tmps.size
  vals:∀ i o d,listed.getD i false=true→l[i]? = some o→o.dst=some d→a.tmps[d]? = some (vs i)
  rest:∀ t,(∀ i o,listed.getD i false=true→l[i]? = some o→o.dst≠some t)→a.tmps[t]? = a0.tmps[t]?
  cst:∀ i c,C[i]? = some (.is c)→(listed.getD i false=true∨U.contains i=true∨isT l i=true)→vs i=c
end
section
variable {P : Program} {Rd : World → Prop} {w0 : World} {base N : Nat} {L : Env}
end
section
variable {P : Program} {Rd : World → Prop} {w0 : World} {base N : Nat} {L : Env} {U : List Nat} {F : List Kn → Prop} {o : Oper} {os : List Oper} {s : Srq} {ss : List Srq} {C : List Kn}
end
end Go.Proofs.YthfkppjajmjpnaaDoor.Auto
end
section
namespace Go.Proofs.YthfkppjajmjpnaaDoor.Auto
open Go Go.RowKit
open Rely
variable {ds : List Deferred} {Fe : Fence} {nf : Nat}
structure Free (Fe : Fence) (nf : Nat) (P : Program) : Prop where
  fn:∀ f,Fe.fn f
  dp:Fe.depth.isSome=true→1≤nf
  calls:∀ {f:FuncId} {args:Array Value} {w:World} {T:Ending→World→Prop},Calls P f args w T→CallsIn Fe (nf-1) P f args w T
theorem Qbi (l nf:Nat) (P:Program):Free (Fence.wide.inRound l) nf P:=⟨fun _=>trivial,(fun h=>by cases h),fun h=>callsIn_wide.2 h⟩
def QbL (o : Oper):Bool:=match o.op with | .defer _=>false | _=>true
theorem QeD {o : Oper} (h:QbL o=true):∀ c,o.op≠.defer c:=fun c hc=>by
  unfold QbL at h
  rw [hc] at h
  cases h
section
variable {P : Program} {ops : Array Oper} {Q : Exit → Act → World → Prop} {rest : List Oper} {o : Oper} {N : Nat} {L : Env} {w : World}
structure WLI (Fe : Fence) (nf : Nat) (P : Program) (ops : Array Oper) (Q : Exit → Act → World → Prop) (rest : List Oper) (a : Act) (w : World) : Prop where
  out:wpListIn Fe nf P ops Q rest a w
theorem QbX {P : Program} {Q:Exit→Act→World→Prop} {a:Act} {w:World} {id:Nat} {l:List Oper} (h:WLI Fe nf P l.toArray Q l a w):(Code.region id l.toArray false).wpIn Fe nf P Q a w:=wpIn_region_lit h.out
theorem Qjm (hF : Free Fe nf P) (hnd:QbL o=true) (hg:Qbu ops o N L=some true) (h:∀ K:Act→World→Prop,(∀ a w,WLI Fe nf P ops Q rest a w→K a w)→o.uponIn Fe nf P (Qa3 ds N L) K Q ((execOp (Rely.look (envN N L)) o).run P w)):WLI Fe nf P ops Q (o::rest) (Qa3 ds N L) w :=
  ⟨wpListIn_step fun K hK=>by
    rw [if_pos (QbS hg)]
    unfold Oper.wpIn
    rw [Oper.semAt_plain Fe _ _ (QeD hnd),Qbj]
    exact ⟨fun f _=>hF.fn f,h K fun a w hh=>hK a w hh.out⟩⟩
theorem QcC (v : Value) (d:Nat) (hd:o.dst=some d) (hF:Free Fe nf P) (hnd:QbL o=true) (hg:Qbu ops o N L=some true) (h:(execOp (Rely.look (envN N L)) o).run P w=.ok (.value v) w) (k:WLI Fe nf P ops Q rest (Qa3 ds N ((d,v)::L)) w):WLI Fe nf P ops Q (o::rest) (Qa3 ds N L) w :=
  Qjm hF hnd hg fun K hK=>by
    rw [h]
    show K _ _
    rw [hd,Qbb]
    exact hK _ _ k
theorem Qjk (w' : World) (hd:o.dst=none) (hF:Free Fe nf P) (hnd:QbL o=true) (hg:Qbu ops o N L=some true) (h:(execOp (Rely.look (envN N L)) o).run P w=.ok .skip w') (k:WLI Fe nf P ops Q rest (Qa3 ds N L) w'):WLI Fe nf P ops Q (o::rest) (Qa3 ds N L) w :=
  Qjm hF hnd hg fun K hK=>by
    rw [h]
    show K _ _
    rw [hd]
    exact hK _ _ k
theorem Qer (k : Q .normal (Qa3 ds N L) w):WLI Fe nf P ops Q [] (Qa3 ds N L) w:=⟨k⟩
end
section
variable {P : Program} {ops : Array Oper} {Q : Exit → Act → World → Prop} {rest : List Oper} {o : Oper} {N : Nat} {L : Env} {w : World}
theorem Qjl (g : Nat) (old cs:Array Value) (t:TypeId) (hg:w.heap[g]? = some (.cells old t)) (hd:o.dst=none) (hF:Free Fe nf P) (hnd:QbL o=true) (hw:Qbu ops o N L=some true) (h:(execOp (Rely.look (envN N L)) o).run P w=.ok .skip (w.setRow g cs))
    (k:∀ W:World,Puts w g W→W.heap[g]? = some (.cells cs t)→WLI Fe nf P ops Q rest (Qa3 ds N L) W):WLI Fe nf P ops Q (o::rest) (Qa3 ds N L) w :=
  Qjk _ hd hF hnd hw h (k _ (QcQ _ _ _) (setRow_heap _ _ _ _ _ _ hg))
end
section
variable {P : Program} {Q : Exit → Act → World → Prop} {w : World} {N : Nat} {L : Env}
theorem Qdm {c : Operand} {x y:Code} {t:Bool} (hc:Rely.look (envN N L) c=.bool t) (ht:t=true→x.wpIn Fe nf P Q (Qa3 ds N L) w) (hf:t=false→y.wpIn Fe nf P Q (Qa3 ds N L) w):(Code.cond c x y).wpIn Fe nf P Q (Qa3 ds N L) w:=wpIn_cond_split (by rw [Qbj]; exact hc) ht hf
end
end Go.Proofs.YthfkppjajmjpnaaDoor.Auto
end
section
namespace Go.Proofs.YthfkppjajmjpnaaDoor.Auto
open Go Go.RowKit
open Rely
variable {ds : List Deferred}
theorem Qmf {P : Program} {f:FuncId} {fn:Func} {c:Code} {args:Array Value} {w:World} {R:Ending→World→Prop} (N:Nat) (L:Env)
    (hf:P.funcs[f]? = some fn) (hb:fn.body=some c) (hn:fn.ntmps=N) (hs:Nat.ble args.size N=true) (hL:Qda args.toList 0=L)
    (h:c.wp P (bodyPostM Fence.wide 3 P fn R) (Qa3 [] N L) w):Calls P f args w R:=by
  subst hn
  subst hL
  refine (callsIn_wide (n:=3)).1 (callsIn_of_wp_marks hf hb trivial (wpIn_wide.2 ?_) rfl)
  rw [entry _ _ (by simpa using hs)]
  exact h
abbrev mark (D : Nat) : Deferred := { target := .collected D, args := #[] }
theorem QfU (N : Nat) (L:Env) (p:Nat) (v:Value):({ tmps:=(#[p].zip #[v]).foldl (fun t (p,v)=>t.setIfInBounds p v) (Qa3 ds N L).tmps,defers:=[] }:Act)=Qa3 [] N ((p,v)::L):=by
  rw [←Qbb]
  simp [Act.put,Qa3]
theorem QeW {W : World} {g D:Nat} {cs:Array Value} {t:TypeId} {b:Option (List Deferred)} (h:W.heap[g]? = some (.cells cs t)) (hD:W.heap[D]? = some (.deferred b)) (o:Obj):(W.putObj D o).heap[g]? = some (.cells cs t) :=
  Qcr h (grownBy_putObj' W D o) (fun r e=>by cases e; exact ⟨_,hD,rfl⟩)
theorem QeX {w W:World} {D:Nat} {ob:Obj} (h:Ext w W) (hl:w.heap.size≤D) (hD:W.heap[D]? = some ob) (o:Obj):Ext w (W.putObj D o) :=
  ⟨h.os,h.tape,h.output,by have:=h.size; simpa using this,fun k hk=>(World.putObj_heap_other (fun e=>by omega)).trans (h.block k hk)⟩
theorem Qhc {W W':World} {g:Nat} {cs:Array Value} {t:TypeId} (hp:Puts W g W') (hg:W.heap[g]? = some (.cells cs t)):KeepsOthers W W' :=
  ⟨qE hp.2.2.2.1.symm,fun k o hk ho=>by
    refine (hp.2.2.2.2 k fun e=>?_).trans hk
    subst e
    rw [hg] at hk
    cases hk
    cases ho⟩
section
variable {P : Program} {fn : Func} {R : Ending → World → Prop} {N : Nat} {L : Env} {w : World}
end
end Go.Proofs.YthfkppjajmjpnaaDoor.Auto
end
section
namespace Go.Proofs.YthfkppjajmjpnaaDoor.Auto
open Go Go.RowKit
open Rely
variable {ds : List Deferred}
theorem Qai {P : Program} {ρ:Operand→Value} {o:Oper} {w:World} {u v:Value} (h:(execOp ρ o).run P w=.ok (.value u) w) (e:u=v):(execOp ρ o).run P w=.ok (.value v) w:=by rw [h,e]
theorem Qbf {P : Program} {ρ:Operand→Value} {o:Oper} {w:World} (op:BinOp) (t ty:TypeId) (x y:Operand) (k k':IntKind) (a b:Int) (v:Value) (ho:o.op=.binOp op t x y ty) (hx:ρ x=.int k a) (hy:ρ y=.int k' b)
    (h:(binOp op t (.int k a) (.int k' b)).run P w=.ok v w):(execOp ρ o).run P w=.ok (.value v) w:=by
  unfold execOp
  simp only [ho,hx,hy,Sem.run_bind]
  have hg:(eqGuard op t x y (.int k a) (.int k' b)).run P w=.ok () w:=by
    unfold eqGuard
    cases op <;> rfl
  simp [hg,h]
theorem QcN {P : Program} {w:World} (t:TypeId) (k k':IntKind) (a b r:Int) (hb:0≤b) (h:a.fdiv (2^min b.toNat k.bits)=r):(binOp .shr t (.int k a) (.int k' b)).run P w=.ok (.int k r) w:=by
  subst h
  unfold binOp Op.shift
  simp [show ¬ b<0 by omega]
theorem Qiw {P : Program} {w:World} (t:TypeId) (k k':IntKind) (a b r:Int) (hb:0≤b) (h:k.wrap (a*2^min b.toNat k.bits)=r):(binOp .shl t (.int k a) (.int k' b)).run P w=.ok (.int k r) w:=by
  subst h
  unfold binOp Op.shift
  simp [show ¬ b<0 by omega]
theorem QaB {P : Program} {ρ:Operand→Value} {o:Oper} {w:World} (ty tr:TypeId) (x y:Operand) (u v:Array Value) (r:Value) (ho:o.op=.binOp .eql ty x y tr) (hx:ρ x=.agg u) (hy:ρ y=.agg v)
    (hm:P.eqGuardType P.depth ty=false) (h:(binOp .eql ty (.agg u) (.agg v)).run P w=.ok r w):(execOp ρ o).run P w=.ok (.value r) w:=by
  unfold execOp
  simp only [ho,hx,hy,Sem.run_bind,Sem.run_pure,run_eqGuard_agg (hm:=hm),Result.andThen_ok,h]
theorem QaM {P : Program} {ρ:Operand→Value} {o:Oper} {w:World} (ty tr:TypeId) (x y:Operand) (u v:Array Value) (r:Value) (ho:o.op=.binOp .neq ty x y tr) (hx:ρ x=.agg u) (hy:ρ y=.agg v)
    (hm:P.eqGuardType P.depth ty=false) (h:(binOp .neq ty (.agg u) (.agg v)).run P w=.ok r w):(execOp ρ o).run P w=.ok (.value r) w:=by
  unfold execOp
  simp only [ho,hx,hy,Sem.run_bind,Sem.run_pure,run_eqGuard_agg (hm:=hm),Result.andThen_ok,h]
theorem QkY (n : Nat) (h:n<9223372036854775808):IntKind.i64.wrap (n:Int)=(n:Int):=IntWalk.i64_in _ (by omega)
theorem Qb3 (n d:Nat) (h:n<9223372036854775808):IntKind.i64.wrap (Int.tdiv (n:Int) (d:Int))=((n/d:Nat):Int):=by
  rw [←Int.ofNat_tdiv]
  exact QkY _ (Nat.lt_of_le_of_lt (Nat.div_le_self _ _) h)
theorem Qbl (n d:Nat):Int.tmod (n:Int) (d:Int)=((n%d:Nat):Int):=(Int.ofNat_tmod n d).symm
theorem QbO {P : Program} {ρ:Operand→Value} {o:Oper} {w:World} (t:TypeId) (x y:Operand) (k:IntKind) (n g off len:Nat) (e:TypeId) (sz:Nat) (ho:o.op=.indexAddr t x y) (hx:ρ x=.pointer (some ⟨g,off,none⟩)) (hy:ρ y=.int k n)
    (hu:P.underlying t=some (.array len e)) (hs:(P.info? e).map (·.size)=some sz) (hn:n<len):(execOp ρ o).run P w=.ok (.value (.pointer (some ⟨g,off+n*sz,none⟩))) w:=by
  have hadd:(⟨g,off,none⟩:Addr).add (n*sz)=⟨g,off+n*sz,none⟩:=by unfold Addr.add; split <;> simp_all
  have hsz:(sizeOf e).run P w=.ok sz w:=by
    cases hq:P.info? e with
    | none=>simp [hq] at hs
    | some i =>
      have:i.size=sz:=by simpa [hq] using hs
      simp [sizeOf,typeInfo,hq,this]
  unfold execOp
  simp only [ho,hx,hy,Instr.indexAt,Instr.sureAddr,asIntOf,Sem.run_bind,run_underlying hu w,Result.andThen_ok,Sem.run_pure]
  rw [if_pos ⟨by omega,by omega⟩]
  simp [hsz,hadd]
theorem QaR {P : Program} {ρ:Operand→Value} {o:Oper} {w:World} (t:TypeId) (x y:Operand) (k:IntKind) (n g len:Nat) (e:TypeId) (ho:o.op=.indexAddr t x y) (hx:ρ x=.pointer (some ⟨g,0,none⟩)) (hy:ρ y=.int k n)
    (hu:P.underlying t=some (.array len e)) (hs:(P.info? e).map (·.size)=some 1) (hn:n<len):(execOp ρ o).run P w=.ok (.value (.pointer (some ⟨g,n,none⟩))) w:=by
  have:=QbO (w:=w) t x y k n g 0 len e 1 ho hx hy hu hs hn
  rw [Nat.zero_add,Nat.mul_one] at this
  exact this
theorem Qbe {P : Program} {ρ:Operand→Value} {o:Oper} {w:World} {k:IntKind} (ty:TypeId) (x y:Operand) (g off:Nat) (t:TypeId) (xs:List Int) (v:Int) (hg:w.heap[g]? = some (.cells (ints k xs) t))
    (ho:o.op=.store ty x y) (hx:ρ x=.pointer (some ⟨g,off,none⟩)) (hy:ρ y=.int k v) (hi:(P.info? ty).map (·.size)=some 1) (hs:off<xs.length) :
    (execOp ρ o).run P w=.ok .skip (w.setRow g (ints k (xs.set off v))):=by
  rw [←Qg6]
  exact QaW ty x y g off t _ _ hg ho hx hy hi (by rw [Qae]; simpa using hs) rfl rfl
def Qhj (L : Env):Env→Prop
  | []=>True
  | (t,v)::r=>get L t=v∧Qhj L r
theorem QfF {L : Env}:∀ (M:Env),Qhj L M→∀ t,get (M++L) t=get L t
  | [],_,_=>rfl
  | (k,v)::r,⟨h1,h2⟩,t=>by
    show (bif Nat.beq k t then v else get (r++L) t)=_
    cases hb:Nat.beq k t with
    | true=>rw [_root_.cond_true,←h1,Nat.eq_of_beq_eq_true hb]
    | false=>rw [_root_.cond_false,QfF r h2 t]
theorem QfL {N : Nat} {L M:Env} (h:Qhj L M):Qa3 ds N (M++L)=Qa3 ds N L:=by
  unfold Qa3
  congr 2
  funext t
  exact QfF M h t.1
theorem QeK {P : Program} {c:Code} {Q:Exit→Act→World→Prop} (I:Nat→Act→World→Prop)
    (round:∀ n a w,I n a w→c.wp P (Exit.then (fun a' w'=>∃ m,m<n∧I m a' w') Q) a w) (n:Nat) (a:Act) (w:World) (h₀:I n a w):(Code.loop c).wp P Q a w:=by
  intro b k cs
  have key:∀ n a w,I n a w→∃ e a' w',Q e a' w'∧Arrives P (lone (b.at a (.code c::.inLoop c::k)) cs w) b k cs e a' w':=by
    intro n
    induction n using Nat.strongRecOn with
    | _ n ih =>
      intro a w hI
      obtain ⟨e,a₁,w₁,hq,harr⟩:=round n a w hI b (.inLoop c::k) cs
      cases e with
      | normal =>
        obtain ⟨m,hlt,hI₁⟩:=hq
        obtain ⟨e₂,a₂,w₂,hq₂,harr₂⟩:=ih m hlt a₁ w₁ hI₁
        exact ⟨e₂,a₂,w₂,hq₂,.of_steps (Steps.trans harr (.one step_inLoop)) harr₂⟩
      | exit id=>exact ⟨_,a₁,w₁,hq,.pass (x:=.inLoop c) rfl (fun _ _=>.inl (by simp)) harr⟩
      | goto l=>exact ⟨_,a₁,w₁,hq,.pass (x:=.inLoop c) rfl (fun _ _=>.inl (by simp)) harr⟩
      | ret=>exact ⟨_,a₁,w₁,hq,.pass (x:=.inLoop c) rfl (fun _ _=>.inl (by simp)) harr⟩
      | panic ch=>exact ⟨_,a₁,w₁,hq,.pass (x:=.inLoop c) rfl (fun _ _=>.inl (by simp)) harr⟩
      | outgrown=>exact ⟨_,a₁,w₁,hq,.pass (x:=.inLoop c) rfl (fun _ _=>.inl (by simp)) harr⟩
  obtain ⟨e,a',w',hq,harr⟩:=key n a w h₀
  exact ⟨e,a',w',hq,.of_steps (.one step_loop) harr⟩
def Goes {α : Type} (ds:List Deferred) (N:Nat) (live:α→Env) (I:α→World→Prop) (μ:α→Nat) (s:α) (a':Act) (W':World):Prop:=∃ (s':α) (X':Env),a'=Qa3 ds N (live s'++X')∧I s' W'∧μ s' < μ s
theorem Qa0 {α : Type} {P:Program} {body:Code} {Q:Exit→Act→World→Prop} {N:Nat} {L:Env} {w:World} (live:α→Env) (I:α→World→Prop) (μ:α→Nat) (s0:α) (hL:Qhj L (live s0)) (h0:I s0 w)
    (round:∀ (s:α) (X:Env) (W:World),I s W→body.wp P (Exit.then (Goes ds N live I μ s) Q) (Qa3 ds N (live s++X)) W):(Code.loop body).wp P Q (Qa3 ds N L) w:=by
  rw [←QfL hL]
  refine QeK (fun n a W=>∃ (s:α) (X:Env),a=Qa3 ds N (live s++X)∧I s W∧μ s=n) ?_ (μ s0) _ _ ⟨s0,L,rfl,h0,rfl⟩
  rintro n a W ⟨s,X,rfl,hI,rfl⟩
  refine wp_mono (round s X W hI) fun e a' w' h=>?_
  cases e <;> try exact h
  obtain ⟨s',X',h1,h2,h3⟩:=h
  exact ⟨μ s',h3,s',X',h1,h2,rfl⟩
theorem QgX {α : Type} {N:Nat} {L:Env} {w:World} {live:α→Env} {I:α→World→Prop} {μ:α→Nat} {s:α} (s':α) (hL:Qhj L (live s')) (h:I s' w) (hm:μ s' < μ s):Goes ds N live I μ s (Qa3 ds N L) w :=
  ⟨s',L,(QfL hL).symm,h,hm⟩
theorem Qat {α : Type} {N:Nat} {L:Env} {w:World} {live:α→Env} {I:α→World→Prop} {μ:α→Nat} {s:α} {Q:Exit→Act→World→Prop} (s':α) (hL:Qhj L (live s')) (h:I s' w) (hm:μ s' < μ s):Exit.then (Goes ds N live I μ s) Q .normal (Qa3 ds N L) w :=
  QgX s' hL h hm
end Go.Proofs.YthfkppjajmjpnaaDoor.Auto
end
end
section
namespace Go.Proofs.YthfkppjajmjpnaaDoor.Auto
open Go Go.RowKit
open Rely
variable {ds : List Deferred}
theorem QhW (k : IntKind) (n:Nat):madeCells (Value.int k 0).cells (n*1)=ints k (List.replicate n 0):=by
  unfold madeCells ints
  apply Array.ext
  · simp
  · intro i h1 h2
    simp [Value.cells,Nat.mod_one]
theorem Qh6 {P : Program} {ρ:Operand→Value} {o:Oper} {w:World} {k:IntKind} (t:TypeId) (x y:Operand) (kl kc:IntKind) (n:Nat) (e:TypeId) (ho:o.op=.makeSlice t x y) (hx:ρ x=.int kl n) (hy:ρ y=.int kc n)
    (hu:P.underlying t=some (.slice e)) (hi:(P.info? e).map (fun i=>(i.zero,i.size,i.bytes))=some (some (.int k 0),1,8)∨(P.info? e).map (fun i=>(i.zero,i.size,i.bytes))=some (some (.int k 0),1,1)) (hn:n≤16777216) :
    (execOp ρ o).run P w=.ok (.value (.slice (some ⟨w.heap.size,0,none⟩) n n)) (w.alloc (.cells (ints k (List.replicate n 0)) e)):=by
  cases hq:P.info? e with
  | none=>rcases hi with hi | hi <;> simp [hq] at hi
  | some i =>
    have hz:i.zero=some (.int k 0)∧i.size=1∧i.bytes≤8:=by
      rcases hi with hi | hi <;> simp [hq] at hi <;> exact ⟨hi.1,hi.2.1,by omega⟩
    have hb:(i.bytes:Int)*(n:Int)≤281474976710656:=by
      have h1:(i.bytes:Int)*(n:Int)≤8*(n:Int):=Int.mul_le_mul_of_nonneg_right (by omega) (by omega)
      omega
    have h:=run_make w t e i (.int k 0) hu hq hz.1 kl kc (n:Int) (n:Int) (by omega) (by omega) hb (by omega)
    rw [hz.2.1,Int.toNat_natCast,QhW] at h
    unfold execOp
    simp only [ho,hx,hy,Sem.run_bind,Sem.run_pure,h,Result.andThen_ok]
theorem Qdv {P : Program} {ρ:Operand→Value} {o:Oper} {w:World} (t:TypeId) (x y:Operand) (k:IntKind) (n g off len cap:Nat) (e:TypeId) (ho:o.op=.indexAddr t x y) (hx:ρ x=.slice (some ⟨g,off,none⟩) len cap) (hy:ρ y=.int k n)
    (hu:P.underlying t=some (.slice e)) (hs:(P.info? e).map (·.size)=some 1) (hn:n<len):(execOp ρ o).run P w=.ok (.value (.pointer (some ⟨g,off+n,none⟩))) w:=by
  cases hq:P.info? e with
  | none=>simp [hq] at hs
  | some i =>
    have hs':i.size=1:=by simpa [hq] using hs
    have hadd:(⟨g,off,none⟩:Addr).add n=⟨g,off+n,none⟩:=by unfold Addr.add; split <;> simp_all
    have h0:(0:Int)≤(n:Int):=by omega
    have h1:(n:Int)<(len:Int):=by omega
    unfold execOp
    simp only [ho,hx,hy]
    simp [Instr.indexAt,asIntOf,run_underlying hu,sizeOf,typeInfo,hq,hs',h0,hn,hadd]
theorem QbE {P : Program} {ρ:Operand→Value} {o:Oper} {w:World} (t:TypeId) (x y:Operand) (k:IntKind) (n g len cap:Nat) (e:TypeId) (ho:o.op=.indexAddr t x y) (hx:ρ x=.slice (some ⟨g,0,none⟩) len cap) (hy:ρ y=.int k n)
    (hu:P.underlying t=some (.slice e)) (hs:(P.info? e).map (·.size)=some 1) (hn:n<len):(execOp ρ o).run P w=.ok (.value (.pointer (some ⟨g,n,none⟩))) w:=by
  have:=Qdv (w:=w) t x y k n g 0 len cap e ho hx hy hu hs hn
  rwa [Nat.zero_add] at this
theorem Qak {P : Program} {ρ:Operand→Value} {o:Oper} {w:World} (ty:TypeId) (x:Operand) (a:Addr) (v:Value) (hc:w.cell? a=some v)
    (ho:o.op=.load ty x) (hx:ρ x=.pointer (some a)) (hu:aggD P ty=some false):(execOp ρ o).run P w=.ok (.value v) w:=by
  unfold aggD at hu
  cases hd:P.underlying ty with
  | none=>rw [hd] at hu; cases hu
  | some d =>
    rw [hd] at hu
    have hdd:aggB d=false:=Option.some.inj hu
    have hagg:(isAgg ty).run P w=.ok false w:=by
      unfold isAgg
      rw [Sem.run_bind,run_underlying hd w]
      cases d <;> first | rfl | cases hdd
    unfold execOp
    simp [ho,hx,Instr.loadAt,Instr.sureAddr,loadVar,hagg,hc]
theorem Qba {W : World} {g:Nat} {k:IntKind} {a b:List Int} {t:TypeId} (r:W.heap[g]? = some (.cells (ints k a) t)) (h:a=b):W.heap[g]? = some (.cells (ints k b) t):=h▸r
section
variable {P : Program} {ops : Array Oper} {Q : Exit → Act → World → Prop} {rest : List Oper} {o : Oper} {N : Nat} {L : Env} {w : World}
theorem QaD (cs : Array Value) (T:TypeId) (n d:Nat) (hd:o.dst=some d) (hg:Qbu ops o N L=some true) (h:(execOp (Rely.look (envN N L)) o).run P w=.ok (.value (.slice (some ⟨w.heap.size,0,none⟩) n n)) (w.alloc (.cells cs T)))
    (k:∀ (g:Nat) (W:World),w.heap.size≤g→Ext w W→W.heap[g]? = some (.cells cs T)→WL P ops Q rest (Qa3 ds N ((d,.slice (some ⟨g,0,none⟩) n n)::L)) W):WL P ops Q (o::rest) (Qa3 ds N L) w :=
  QbI _ _ d hd hg h (k _ _ (qR _) (Qck _ _) (heap_alloc_new _ _))
end
section
variable {K : Act → World → Prop} {Q : Exit → Act → World → Prop} {a : Act} {w : World}
theorem goX1 {n : Nat} (h:Q (.exit n) a w):Exit.then K Q (.exit n) a w:=h
theorem goX2 {n : Nat} (h:Q .normal a w):Exit.inBlock n Q (.exit n) a w:=by
  unfold Exit.inBlock
  simpa using h
theorem goR1 (h : Q .ret a w):Exit.then K Q .ret a w:=h
theorem goR2 {n : Nat} (h:Q .ret a w):Exit.inBlock n Q .ret a w:=h
theorem goX3 {n : Nat} (h:Q .normal a w):Exit.inBlock n Q .normal a w:=h
end
end Go.Proofs.YthfkppjajmjpnaaDoor.Auto
end
section
namespace Go.Proofs.YthfkppjajmjpnaaDoor.Own
open Go Go.RowKit
open Rely Auto
def ExtB (g : Nat) (w W:World):Prop:=W.os=w.os∧W.tape=w.tape∧W.output=w.output∧w.heap.size≤W.heap.size∧∀ k,k<w.heap.size→k≠g→W.heap[k]? = w.heap[k]?
theorem ExtB.refl (g : Nat) (w:World):ExtB g w w:=⟨rfl,rfl,rfl,qR _,fun _ _ _=>rfl⟩
theorem ExtB.ext {g : Nat} {w W W':World} (h:ExtB g w W) (e:Ext W W'):ExtB g w W' :=
  ⟨e.os.trans h.1,e.tape.trans h.2.1,e.output.trans h.2.2.1,qT h.2.2.2.1 e.size,fun k hk hn=>(e.block k (qL hk h.2.2.2.1)).trans (h.2.2.2.2 k hk hn)⟩
theorem ExtB.puts {g : Nat} {w W W':World} (h:ExtB g w W) (p:Puts W g W'):ExtB g w W' :=
  ⟨p.1.trans h.1,p.2.1.trans h.2.1,p.2.2.1.trans h.2.2.1,by have:=h.2.2.2.1; have:=p.2.2.2.1; omega,fun k hk hn=>(p.2.2.2.2 k hn).trans (h.2.2.2.2 k hk hn)⟩
theorem ExtB.row {g : Nat} {w W:World} {k:Nat} {ob:Obj} (h:ExtB g w W) (r:w.heap[k]? = some ob) (hn:k≠g):W.heap[k]? = some ob:=(h.2.2.2.2 k (by
  rcases Nat.lt_or_ge k w.heap.size with hl | hl
  · exact hl
  · rw [Array.getElem?_eq_none hl] at r; cases r) hn).trans r
theorem ExtB.up {g : Nat} {w0 w W:World} (h:Ext w0 w) (k:ExtB g w W) (lo:w0.heap.size≤g):Ext w0 W :=
  ⟨k.1.trans h.os,k.2.1.trans h.tape,k.2.2.1.trans h.output,qT h.size k.2.2.2.1,fun i hi=>(k.2.2.2.2 i (qL hi h.size) (by omega)).trans (h.block i hi)⟩
theorem ExtB.trans {g : Nat} {a b c:World} (h:ExtB g a b) (k:ExtB g b c):ExtB g a c :=
  ⟨k.1.trans h.1,k.2.1.trans h.2.1,k.2.2.1.trans h.2.2.1,qT h.2.2.2.1 k.2.2.2.1,fun i hi hn=>(k.2.2.2.2 i (qL hi h.2.2.2.1) hn).trans (h.2.2.2.2 i hi hn)⟩
def Qe4 (base g c:Nat) (cur:Array Value) (bs:List Int) (W:World):Prop:=base≤g∧W.heap[g]? = some (.cells cur 5)∧cur.size=c∧bs.length≤c∧c≤maxLen∧cur.toList.take bs.length=bs.map (Value.int .u8)
def OwnB (base : Nat) (bs:List Int) (v:Value) (W:World):Prop:=∃ (g c:Nat) (cur:Array Value),v=.slice (some ⟨g,0,none⟩) bs.length c∧Qe4 base g c cur bs W
theorem Qe4.ext {base g c:Nat} {cur:Array Value} {bs:List Int} {W W':World} (h:Qe4 base g c cur bs W) (e:Ext W W'):Qe4 base g c cur bs W':=⟨h.1,Qah h.2.1 e,h.2.2⟩
theorem OwnB.ext {base : Nat} {bs:List Int} {v:Value} {W W':World} (h:OwnB base bs v W) (e:Ext W W'):OwnB base bs v W':=by
  obtain ⟨g,c,cur,rfl,h⟩:=h
  exact ⟨g,c,cur,rfl,h.ext e⟩
theorem OwnB.stable (base : Nat) (bs:List Int):Qb6 Ext (OwnB base bs):=fun _ _ _ hR h=>h.ext hR
theorem OwnB.base {a b:Nat} {bs:List Int} {v:Value} {W:World} (hab:a≤b) (h:OwnB b bs v W):OwnB a bs v W:=by
  obtain ⟨g,c,cur,rfl,h1,h⟩:=h
  exact ⟨g,c,cur,rfl,qT hab h1,h⟩
theorem Qe4.cell {base g c:Nat} {cur:Array Value} {bs:List Int} {W:World} (h:Qe4 base g c cur bs W):∀ i,i<bs.length→W.cell? ⟨g,i,none⟩=some (.int .u8 (nth bs i)):=fun i hi=>by
  refine Qcs h.2.1 ?_
  have e:(cur.toList.take bs.length)[i]? = (bs.map (Value.int .u8))[i]?:=by rw [h.2.2.2.2.2]
  rw [List.getElem?_take_of_lt hi,List.getElem?_map,List.getElem?_eq_getElem hi] at e
  rw [←Array.getElem?_toList,e]
  simp [nth,hi]
theorem OwnB.bytes {base : Nat} {bs:List Int} {v:Value} {W:World} (h:OwnB base bs v W) (hb:Qav bs):Qex W v bs:=by
  obtain ⟨g,c,cur,rfl,h⟩:=h
  refine ⟨_,_,rfl,qT h.2.2.2.1 h.2.2.2.2.1,hb,.inr ⟨g,0,rfl,Qa5 h.2.1,fun i hi=>?_⟩⟩
  rw [Nat.zero_add]; exact h.cell i hi
def Qmr (base : Nat) (bs:List Int) (v:Value) (W:World):Prop:=∃ (g:Nat) (cur:Array Value),v=.slice (some ⟨g,0,none⟩) bs.length bs.length∧Qe4 base g bs.length cur bs W
theorem Qmr.stable (base : Nat) (bs:List Int):Qb6 Ext (Qmr base bs):=fun _ _ _ hR ⟨g,cur,e,h⟩=>⟨g,cur,e,h.ext hR⟩
end Go.Proofs.YthfkppjajmjpnaaDoor.Own
end
section
namespace Go.Proofs.YthfkppjajmjpnaaDoor.Own
open Go Go.RowKit
open Rely Auto
def OwnV (base : Nat) (bs:List Int) (v:Value) (W:World):Prop:=(v=.slice none 0 0∧bs=[])∨OwnB base bs v W
theorem OwnV.below {base : Nat} {bs:List Int} {v:Value} {W W':World} (h:OwnV base bs v W) (hs:∀ g,v.ownBlock=some g→W'.heap[g]? = W.heap[g]?):OwnV base bs v W':=by
  rcases h with h | ⟨g,c,cur,rfl,h1,h2,h3⟩
  · exact .inl h
  · exact .inr ⟨g,c,cur,rfl,h1,(hs g rfl).trans h2,h3⟩
theorem OwnV.lt {base : Nat} {bs:List Int} {v:Value} {W:World} (h:OwnV base bs v W) {g:Nat} (hg:v.ownBlock=some g):g<W.heap.size:=by
  rcases h with ⟨rfl,_⟩ | ⟨g',c,cur,rfl,h1,h2,h3⟩
  · cases hg
  · obtain rfl:g'=g:=Option.some.inj hg
    exact Qa5 h2
theorem OwnV.ge {base : Nat} {bs:List Int} {v:Value} {W:World} (h:OwnV base bs v W) {g:Nat} (hg:v.ownBlock=some g):base≤g:=by
  rcases h with ⟨rfl,_⟩ | ⟨g',c,cur,rfl,h1,h2,h3⟩
  · cases hg
  · obtain rfl:g'=g:=Option.some.inj hg
    exact h1
theorem Qe4.take {base g c:Nat} {cur:Array Value} {bs:List Int} {W:World} (h:Qe4 base g c cur bs W) (n:Nat):Qe4 base g c cur (bs.take n) W:=by
  obtain ⟨h1,h2,h3,h4,h5,h6⟩:=h
  refine ⟨h1,h2,h3,by rw [List.length_take]; omega,h5,?_⟩
  rw [List.length_take,List.map_take,←h6,List.take_take]
  try (congr 1; omega)
def Went (v v':Value) (W W':World):Prop:=(∃ g n c,v=.slice (some ⟨g,0,none⟩) n c∧(∃ n',v'=.slice (some ⟨g,0,none⟩) n' c)∧ExtB g W W')∨((∃ g,v'.ownBlock=some g∧W.heap.size≤g)∧Ext W W')
theorem Went.other {base : Nat} {bs:List Int} {u v v':Value} {W W':World} (h:Went v v' W W') (hu:OwnV base bs u W) (hn:u.ownBlock=v.ownBlock→u.ownBlock=none):OwnV base bs u W':=by
  refine hu.below fun g hg=>?_
  have hl:=hu.lt hg
  rcases h with ⟨g',n,c,rfl,_,he⟩ | ⟨_,he⟩
  · exact he.2.2.2.2 g hl (fun e=>by subst e; rw [hg] at hn; exact absurd (hn rfl) (by simp))
  · exact he.block g hl
theorem Went.same {base : Nat} {bs ys:List Int} {g n c:Nat} {v v':Value} {W W':World} (h:Went v v' W W') (hv':OwnB base ys v' W') (hu:OwnB base bs (.slice (some ⟨g,0,none⟩) n c) W) (hv:∃ m,v=.slice (some ⟨g,0,none⟩) m c) (hp:ys.take n=bs):OwnB base bs (.slice (some ⟨g,0,none⟩) n c) W':=by
  rcases h with ⟨g',m,c',rfl,⟨n',rfl⟩,he⟩ | ⟨_,he⟩
  · obtain ⟨m',e⟩:=hv
    simp only [Value.slice.injEq,Option.some.injEq,Addr.mk.injEq] at e
    obtain ⟨⟨rfl,_⟩,_,rfl⟩:=e
    obtain ⟨g2,c2,cur2,e2,o2⟩:=hv'
    simp only [Value.slice.injEq,Option.some.injEq,Addr.mk.injEq] at e2
    obtain ⟨⟨rfl,_⟩,_,rfl⟩:=e2
    have o3:=o2.take n
    rw [hp] at o3
    obtain ⟨g3,c3,cur3,e3,o4⟩:=hu
    simp only [Value.slice.injEq,Option.some.injEq,Addr.mk.injEq] at e3
    exact ⟨_,_,_,by rw [e3.2.1],o3⟩
  · exact hu.ext he
end Go.Proofs.YthfkppjajmjpnaaDoor.Own
end
section
namespace Go.Proofs.YthfkppjajmjpnaaDoor.Auto
open Go Go.RowKit
open Rely Own
variable {ds : List Deferred}
inductive KE where
  | is (v:Value)
  | ex (φ:Fact)
def KE.fact : KE→Fact
  | .is c=>fun v _=>v=c
  | .ex φ=>φ
def KE.kn : KE→Kn
  | .is c=>.is c
  | .ex _=>.new #[] 0
structure Rl (R : World → World → Prop) (w0 : World) : Prop where
  refl:∀ W,R W W
  trans:∀ {a b c:World},R a b→R b c→R a c
  ext:∀ {a b:World},w0.heap.size≤a.heap.size→Ext a b→R a b
  low:∀ {W:World},R w0 W→Ext w0 W
theorem Qam (w0 : World):Rl Ext w0:=⟨Rely.Ext.refl,Rely.Ext.trans,fun _ h=>h,fun h=>h⟩
def KE.ok (R : World→World→Prop):KE→Prop
  | .is _=>True
  | .ex φ=>Qb6 R φ
theorem KE.stable {R : World→World→Prop} {k:KE} (h:k.ok R):Qb6 R k.fact:=by
  cases k with
  | is c=>exact fun _ _ _ _ h=>h
  | ex φ=>exact h
theorem Qg8 {r0 : Tmp→Value} {C:List KE} {ρ:Tmp→Value} {W:World}:∀ (r:List (Tmp×Option Nat)),(r.all fun x=>match x.2 with | some i=>(match (C.map KE.kn)[i]? with | some (.is _)=>true | _=>false) | none=>true)=true →
    Qc4 r0 (C.map KE.fact) ρ W r→Qc4 r0 ((C.map KE.kn).map (Kn.fact 0)) ρ W r
  | [],_,_=>trivial
  | (t,none)::r,ha,h=>by
    simp only [List.all_cons,Bool.and_eq_true] at ha
    exact ⟨h.1,Qg8 r ha.2 h.2⟩
  | (t,some i)::r,ha,h=>by
    simp only [List.all_cons,Bool.and_eq_true] at ha
    refine ⟨?_,Qg8 r ha.2 h.2⟩
    have h1:=h.1
    have h2:=ha.1
    simp only [List.getElem?_map] at h2
    cases hc:C[i]? with
    | none=>simp [hc] at h2
    | some k =>
      cases k with
      | ex φ=>simp [hc,KE.kn] at h2
      | is c =>
        simp only [List.getD_eq_getElem?_getD,List.getElem?_map,hc,Option.map_some,Option.getD_some,KE.fact] at h1
        simp [List.getD_eq_getElem?_getD,hc,KE.kn,Kn.fact,h1]
def Qbs (P : Program) (R:World→World→Prop) (w0:World) (N:Nat) (L:Env) (F:List KE→Prop):List Oper→List Srq→List KE→Prop
  | o::os,s::ss,C=>∃ k:KE,k.ok R∧opOk P R w0 (envN N L) (C.map KE.fact) o s k.fact∧Qbs P R w0 N L F os ss (C++[k])
  | _,_,C=>F C
theorem Qcp {P : Program} {R:World→World→Prop} {w0:World} {N:Nat} {L:Env} {F:List KE→Prop} {G:List Fact→Prop} (hFG:∀ C,F C→G (C.map KE.fact)):∀ (os:List Oper) (ss:List Srq) (C:List KE),Qbs P R w0 N L F os ss C→relies P R w0 (envN N L) G os ss (C.map KE.fact)
  | [],_,C,h=>hFG C (by simpa [Qbs] using h)
  | _::_,[],C,h=>hFG C (by simpa [Qbs] using h)
  | o::os,s::ss,C,⟨k,h0,h1,h2⟩=>by
    refine ⟨k.fact,KE.stable h0,h1,?_⟩
    have:=Qcp hFG os ss (C++[k]) h2
    simpa using this
section
variable {P : Program} {R : World → World → Prop} {w0 : World} {N : Nat} {L : Env} {F : List KE → Prop} {o : Oper} {os : List Oper} {s : Srq} {ss : List Srq} {C : List KE}
theorem e_op (hRl : Rl R w0) (k:KE) (hk0:k.ok R) (hs:seen (C.map KE.kn) o s=true) (hg:gOk s.guard (get (envS N L ((C.map KE.kn).map Kn.val) s.reads))=true)
    (h:∀ W,R w0 W→QcG P R W k.fact ((execOp (Rely.look (get (envS N L ((C.map KE.kn).map Kn.val) s.reads))) o).run P W))
    (hk:Qbs P R w0 N L F os ss (C++[k])):Qbs P R w0 N L F (o::os) (s::ss) C :=
  ⟨k,hk0,fun ρ W hR hh=>by
    have hh':Qc4 (envN N L) ((C.map KE.kn).map (Kn.fact 0)) ρ W s.reads:=by
      refine Qg8 s.reads ?_ hh
      have:=hs
      simp only [seen,Bool.and_eq_true] at this
      exact this.1.1.2
    rw [Qdt hs hh']
    refine Qes hg ?_
    unfold Qeh
    rw [Qfy hs hh']
    exact h W hR,hk⟩
theorem QbN (hs : seen (C.map KE.kn) o s=true) (hg:gOk s.guard (get (envS N L ((C.map KE.kn).map Kn.val) s.reads))=false)
    (hk:Qbs P R w0 N L F os ss (C++[.is undef])):Qbs P R w0 N L F (o::os) (s::ss) C :=
  ⟨.is undef,trivial,fun ρ W hR hh=>by
    have hh':Qc4 (envN N L) ((C.map KE.kn).map (Kn.fact 0)) ρ W s.reads:=by
      refine Qg8 s.reads ?_ hh
      have:=hs
      simp only [seen,Bool.and_eq_true] at this
      exact this.1.1.2
    rw [Qdt hs hh']
    exact Qgc hg rfl,hk⟩
theorem Qaz (hRl : Rl R w0) (v:Value) (hs:seen (C.map KE.kn) o s=true) (hg:gOk s.guard (get (envS N L ((C.map KE.kn).map Kn.val) s.reads))=true)
    (h:∀ W,(execOp (Rely.look (get (envS N L ((C.map KE.kn).map Kn.val) s.reads))) o).run P W=.ok (.value v) W)
    (hk:Qbs P R w0 N L F os ss (C++[.is v])):Qbs P R w0 N L F (o::os) (s::ss) C :=
  e_op hRl (.is v) trivial hs hg (fun W _=>by rw [h]; exact ⟨hRl.refl _,rfl⟩) hk
theorem QaK (hRl : Rl R w0) (v:Value) (hs:seen (C.map KE.kn) o s=true) (hg:gOk s.guard (get (envS N L ((C.map KE.kn).map Kn.val) s.reads))=true)
    (h:∀ W,Ext w0 W→(execOp (Rely.look (get (envS N L ((C.map KE.kn).map Kn.val) s.reads))) o).run P W=.ok (.value v) W)
    (hk:Qbs P R w0 N L F os ss (C++[.is v])):Qbs P R w0 N L F (o::os) (s::ss) C :=
  e_op hRl (.is v) trivial hs hg (fun W hR=>by rw [h W (hRl.low hR)]; exact ⟨hRl.refl _,rfl⟩) hk
theorem QjD {A B:World→World→Prop} {W W':World} {φ:Fact} {e:Ending} (h:QfN A W φ e W') (hAB:A W W'→B W W'):QfN B W φ e W':=by
  obtain ⟨v,h1,h2,h3⟩:=h
  exact ⟨v,h1,hAB h2,h3⟩
theorem QcP (hRl : Rl R w0) (v:Value) (f:FuncId) (args:Array Value) (hs:seen (C.map KE.kn) o s=true) (hg:gOk s.guard (get (envS N L ((C.map KE.kn).map Kn.val) s.reads))=true)
    (h:∀ W,(execOp (Rely.look (get (envS N L ((C.map KE.kn).map Kn.val) s.reads))) o).run P W=.ok (.enter f args) W) (hc:∀ W,Ext w0 W→Calls P f args W (Ret W v))
    (hk:Qbs P R w0 N L F os ss (C++[.is v])):Qbs P R w0 N L F (o::os) (s::ss) C :=
  e_op hRl (.is v) trivial hs hg (fun W hR=>by
    rw [h]
    exact ⟨hRl.refl _,(hc W (hRl.low hR)).mono fun _ _ h=>QjD h.const (hRl.ext (hRl.low hR).size)⟩) hk
theorem Qld (hRl : Rl R w0) (φ:Fact) (hφ:Qb6 R φ) (f:FuncId) (args:Array Value) (hs:seen (C.map KE.kn) o s=true) (hg:gOk s.guard (get (envS N L ((C.map KE.kn).map Kn.val) s.reads))=true)
    (h:∀ W,(execOp (Rely.look (get (envS N L ((C.map KE.kn).map Kn.val) s.reads))) o).run P W=.ok (.enter f args) W) (hc:∀ W,Ext w0 W→Calls P f args W (QbK W φ))
    (hk:Qbs P R w0 N L F os ss (C++[.ex φ])):Qbs P R w0 N L F (o::os) (s::ss) C :=
  e_op hRl (.ex φ) hφ hs hg (fun W hR=>by
    rw [h]
    exact ⟨hRl.refl _,(hc W (hRl.low hR)).mono fun _ _ h=>QjD h.fact (hRl.ext (hRl.low hR).size)⟩) hk
def NewS (base : Nat) (cs:Array Value) (T:TypeId) (n:Nat):Fact:=fun v W=>∃ g,v=.slice (some ⟨g,0,none⟩) n n∧base≤g∧W.heap[g]? = some (.cells cs T)
theorem NewS.stable (base : Nat) (cs:Array Value) (T:TypeId) (n:Nat):Qb6 Ext (NewS base cs T n):=fun _ _ _ hR ⟨g,h1,h2,h3⟩=>⟨g,h1,h2,Qah h3 hR⟩
theorem Qiq (hRl : Rl R w0) (cs:Array Value) (T:TypeId) (n:Nat) (hst:Qb6 R (NewS w0.heap.size cs T n)) (hs:seen (C.map KE.kn) o s=true) (hg:gOk s.guard (get (envS N L ((C.map KE.kn).map Kn.val) s.reads))=true)
    (h:∀ W,(execOp (Rely.look (get (envS N L ((C.map KE.kn).map Kn.val) s.reads))) o).run P W=.ok (.value (.slice (some ⟨W.heap.size,0,none⟩) n n)) (W.alloc (.cells cs T)))
    (hk:Qbs P R w0 N L F os ss (C++[.ex (NewS w0.heap.size cs T n)])):Qbs P R w0 N L F (o::os) (s::ss) C :=
  e_op hRl (.ex (NewS w0.heap.size cs T n)) hst hs hg (fun W hR=>by
    rw [h]
    exact ⟨hRl.ext (hRl.low hR).size (Qck _ _),_,rfl,(hRl.low hR).size,heap_alloc_new _ _⟩) hk
def NewP (base : Nat) (cs:Array Value) (T:TypeId):Fact:=fun v W=>∃ g,v=.pointer (some ⟨g,0,none⟩)∧base≤g∧W.heap[g]? = some (.cells cs T)
theorem NewP.stable (base : Nat) (cs:Array Value) (T:TypeId):Qb6 Ext (NewP base cs T):=fun _ _ _ hR ⟨g,h1,h2,h3⟩=>⟨g,h1,h2,Qah h3 hR⟩
theorem QcZ (h : F C):Qbs P R w0 N L F [] ss C:=by cases ss <;> exact h
end
def finE (Q : Env→World→Prop):List Oper→List KE→Env→World→Prop
  | o::os,.is c::C,L,W=>finE Q os C (up o.dst c L) W
  | o::os,.ex φ::C,L,W=>∀ v,φ v W→finE Q os C (up o.dst v L) W
  | _,_,L,W=>Q L W
theorem Qjp {Q : Act→World→Prop} {N:Nat} {W:World}:∀ (os:List Oper) (C:List KE) (L:Env),finE (fun L W=>Q (Qa3 ds N L) W) os C L W→fin Q os (C.map KE.fact) (Qa3 ds N L) W
  | [],C,L,h=>by cases C <;> exact h
  | _::_,[],L,h=>h
  | o::os,.is c::C,L,h=>by
    intro v hv
    obtain rfl:v=c:=hv
    rw [QhD]
    exact Qjp os C _ h
  | o::os,.ex φ::C,L,h=>by
    intro v hv
    rw [QhD]
    exact Qjp os C _ (h v hv)
theorem Qdn {Q Q':Env→World→Prop} (h:∀ L W,Q L W→Q' L W):∀ (os:List Oper) (C:List KE) (L:Env) (W:World),finE Q os C L W→finE Q' os C L W
  | [],C,L,W,k=>by cases C <;> exact h _ _ k
  | _::_,[],L,W,k=>h _ _ k
  | o::os,.is c::C,L,W,k=>Qdn h os C _ W k
  | o::os,.ex φ::C,L,W,k=>fun v hv=>Qdn h os C _ W (k v hv)
theorem Qgh {P : Program} {id:Nat} {Q:Exit→Act→World→Prop} {N:Nat} {L:Env} {w:World} {l:List Oper} (R:World→World→Prop) (hRl:Rl R w.drew) (n:Nat) (S:List Srq) (hm:P.follows .mixedOrders=true) (hok:ok l n N S=true)
    (h:∀ F:List KE→Prop,(∀ C,(∀ W,R w.drew W→finE (fun L W=>WL P l.toArray Q (l.drop n) (Qa3 ds N L) W) (l.take n) C L W)→F C)→Qbs P R w.drew N L F (l.take n) S []) :
    (Code.region id l.toArray true).wp P Q (Qa3 ds N L) w:=by
  refine QcO R n N S hm hok (Qds N L) hRl.refl (fun a b=>hRl.trans a b) fun F r0 hr hF=>?_
  rw [QbD] at hr
  subst hr
  have:=h (fun C=>∀ W,R w.drew W→finE (fun L W=>WL P l.toArray Q (l.drop n) (Qa3 ds N L) W) (l.take n) C L W) (fun C h=>h)
  exact Qcp (G:=F) (fun C h=>hF.out fun W hR=>Qjp (Q:=fun a W=>wpList P l.toArray Q (l.drop n) a W) _ _ _ (Qdn (fun L W h=>h.out) _ _ _ _ (h W hR))) _ _ [] this
theorem QaX {P : Program} {id:Nat} {Q:Exit→Act→World→Prop} {N:Nat} {L:Env} {w:World} {l:List Oper} (n:Nat) (S:List Srq) (hm:P.follows .mixedOrders=true) (hok:ok l n N S=true)
    (h:∀ F:List KE→Prop,(∀ C,(∀ W,Ext w W→finE (fun L W=>WL P l.toArray Q (l.drop n) (Qa3 ds N L) W) (l.take n) C L W)→F C)→Qbs P Ext w.drew N L F (l.take n) S []) :
    (Code.region id l.toArray true).wp P Q (Qa3 ds N L) w :=
  Qgh Ext (Qam _) n S hm hok fun F hF=>h F fun C hC=>hF C fun W hR=>hC W (Rely.Ext.trans (Qax w) hR)
def OwnN (k : IntKind) (T:TypeId) (base:Nat) (xs:List Int) (v:Value) (W:World):Prop:=W.ownsRow base T 1 v xs.length (xs.map (Value.int k))∧xs.length≤maxLen
theorem QhI {k : IntKind} {T:TypeId} {base:Nat} {xs:List Int} {v:Value} {W:World} (h:OwnN k T base xs v W) (h0:0<xs.length) :
    ∃ g c cur,v=.slice (some ⟨g,0,none⟩) xs.length c∧base≤g∧W.heap[g]? = some (.cells cur T)∧cur.size=c∧xs.length≤c∧c≤maxLen∧cur.toList.take xs.length=xs.map (Value.int k):=by
  rcases h.1.2 with ⟨_,h1⟩ | ⟨g,c,cur,h1,h2,h3,h4,h5,h6,h7⟩
  · omega
  · exact ⟨g,c,cur,h1,h2,h3,by omega,h4,h5,by simpa using h7⟩
theorem Qcw (k : IntKind) (T:TypeId) (base:Nat) (W:World):OwnN k T base [] (.slice none 0 0) W:=⟨⟨rfl,.inl ⟨rfl,rfl⟩⟩,Nat.zero_le _⟩
theorem QbY {k : IntKind} {T:TypeId} {base g n:Nat} {xs:List Int} {W:World} (hn:xs.length=n) (hb:base≤g) (r:W.heap[g]? = some (.cells (ints k xs) T)) (hm:n≤maxLen):OwnN k T base xs (.slice (some ⟨g,0,none⟩) n n) W:=by
  subst hn
  exact ⟨⟨by simp,.inr ⟨g,_,_,rfl,hb,r,qR _,hm,by simp [ints],by rw [Nat.mul_one,List.take_of_length_le] <;> simp [ints]⟩⟩,hm⟩
theorem OwnN.keep {k : IntKind} {T:TypeId} {base:Nat} {xs:List Int} {v:Value} {W W':World} (h:OwnN k T base xs v W) (hk:∀ g,v.ownBlock=some g→W'.heap[g]? = W.heap[g]?):OwnN k T base xs v W':=by
  obtain ⟨⟨h1,h2⟩,hm⟩:=h
  refine ⟨⟨h1,?_⟩,hm⟩
  rcases h2 with h2 | ⟨g,c,cur,rfl,q2,q3,q4,q5,q6,q7⟩
  · exact .inl h2
  · exact .inr ⟨g,c,cur,rfl,q2,(hk g rfl).trans q3,q4,q5,q6,q7⟩
theorem OwnN.lt {k : IntKind} {T:TypeId} {base:Nat} {xs:List Int} {v:Value} {W:World} (h:OwnN k T base xs v W) {g:Nat} (hg:v.ownBlock=some g):g<W.heap.size:=by
  rcases h.1.2 with ⟨rfl,_⟩ | ⟨g',c,cur,rfl,q2,q3,_⟩
  · cases hg
  · obtain rfl:g'=g:=Option.some.inj hg
    exact Qa5 q3
theorem OwnN.ge {k : IntKind} {T:TypeId} {base:Nat} {xs:List Int} {v:Value} {W:World} (h:OwnN k T base xs v W) {g:Nat} (hg:v.ownBlock=some g):base≤g:=by
  rcases h.1.2 with ⟨rfl,_⟩ | ⟨g',c,cur,rfl,q2,q3,_⟩
  · cases hg
  · obtain rfl:g'=g:=Option.some.inj hg
    exact q2
theorem OwnN.ext {k : IntKind} {T:TypeId} {base:Nat} {xs:List Int} {v:Value} {W W':World} (h:OwnN k T base xs v W) (e:Ext W W'):OwnN k T base xs v W':=h.keep fun g hg=>e.block g (h.lt hg)
theorem OwnN.stable (k : IntKind) (T:TypeId) (base:Nat) (xs:List Int):Qb6 Ext (OwnN k T base xs):=fun _ _ _ hR h=>h.ext hR
theorem OwnN.base {k : IntKind} {T:TypeId} {a b:Nat} {xs:List Int} {v:Value} {W:World} (hab:a≤b) (h:OwnN k T b xs v W):OwnN k T a xs v W:=by
  obtain ⟨⟨h1,h2⟩,hm⟩:=h
  refine ⟨⟨h1,?_⟩,hm⟩
  rcases h2 with h2 | ⟨g,c,cur,rfl,q2,q3,q4,q5,q6,q7⟩
  · exact .inl h2
  · exact .inr ⟨g,c,cur,rfl,qT hab q2,q3,q4,q5,q6,q7⟩
def RdK (k : IntKind) (B:Nat) (ys:List Int) (v:Value) (W:World):Prop:=∃ a cap,v=.slice a ys.length cap∧ys.length≤cap∧cap≤maxLen∧(a=none→cap=0)∧(ys=[]∨∃ g o,a=some ⟨g,o,none⟩∧g<B∧g<W.heap.size∧∀ i,i<ys.length→W.cell? ⟨g,o+i,none⟩=some (.int k (nth ys i)))
theorem RdK.keep {k : IntKind} {B:Nat} {ys:List Int} {v:Value} {W W':World} (h:RdK k B ys v W) (hs:W.heap.size≤W'.heap.size) (hk:∀ g,g<B→g<W.heap.size→W'.heap[g]? = W.heap[g]?):RdK k B ys v W':=by
  obtain ⟨a,cap,h1,h2,h3,h4,h5⟩:=h
  refine ⟨a,cap,h1,h2,h3,h4,h5.imp id ?_⟩
  rintro ⟨g,o,q1,q2,q3,q4⟩
  refine ⟨g,o,q1,q2,qL q3 hs,fun i hi=>?_⟩
  rw [←q4 i hi]
  exact World.cell?_of_block (hk g q2 q3)
theorem RdK.ext {k : IntKind} {B:Nat} {ys:List Int} {v:Value} {W W':World} (h:RdK k B ys v W) (e:Ext W W'):RdK k B ys v W':=h.keep e.size fun g _ hl=>e.block g hl
theorem RdK.stable (k : IntKind) (B:Nat) (ys:List Int):Qb6 Ext (RdK k B ys):=fun _ _ _ hR h=>h.ext hR
theorem RdK.more {k : IntKind} {A B:Nat} {ys:List Int} {v:Value} {W:World} (h:RdK k A ys v W) (hB:A≤B):RdK k B ys v W:=by
  obtain ⟨a,cap,h1,h2,h3,h4,h5⟩:=h
  exact ⟨a,cap,h1,h2,h3,h4,h5.imp id fun ⟨g,o,q1,q2,q3⟩=>⟨g,o,q1,by omega,q3⟩⟩
theorem RdK.len {k : IntKind} {B:Nat} {ys:List Int} {v:Value} {W:World} (h:RdK k B ys v W):ys.length≤maxLen:=by
  obtain ⟨a,cap,h1,h2,h3,h4⟩:=h
  omega
theorem Qel {k : IntKind} {cur:Array Value} {xs:List Int} (h:cur.toList.take xs.length=xs.map (Value.int k)) {i:Nat} (hi:i<xs.length):cur[i]? = some (.int k (nth xs i)):=by
  have e:(cur.toList.take xs.length)[i]? = (xs.map (Value.int k))[i]?:=by rw [h]
  rw [List.getElem?_take_of_lt hi,List.getElem?_map,List.getElem?_eq_getElem hi] at e
  rw [←Array.getElem?_toList,e]
  simp [nth,hi]
theorem OwnN.rd {k : IntKind} {T:TypeId} {base:Nat} {xs:List Int} {v:Value} {W:World} (h:OwnN k T base xs v W):RdK k W.heap.size xs v W:=by
  rcases h.1.2 with ⟨rfl,h0⟩ | ⟨g,c,cur,rfl,q2,q3,q4,q5,q6,q7⟩
  · have:xs=[]:=List.length_eq_zero_iff.1 h0
    subst this
    exact ⟨none,0,rfl,qR _,Nat.zero_le _,fun _=>rfl,.inl rfl⟩
  · refine ⟨_,_,rfl,q4,q5,(fun h=>by cases h),.inr ⟨g,0,rfl,Qa5 q3,Qa5 q3,fun i hi=>?_⟩⟩
    rw [Nat.zero_add]
    exact Qcs q3 (Qel (by simpa using q7) hi)
theorem QbF {k : IntKind} {T:TypeId} {B g n c:Nat} {cs:Array Value} {xs:List Int} {W:World} (o:Nat) (hn:xs.length=n) (r:W.heap[g]? = some (.cells cs T)) (hc:∀ i,i<n→cs[o+i]? = some (.int k (nth xs i))) (hB:g<B) (hle:n≤c) (hm:c≤maxLen):RdK k B xs (.slice (some ⟨g,o,none⟩) n c) W:=by
  subst hn
  exact ⟨_,_,rfl,hle,hm,(fun h=>by cases h),.inr ⟨g,o,rfl,hB,Qa5 r,fun i hi=>Qcs r (hc i hi)⟩⟩
theorem QaT {k : IntKind} {T:TypeId} {B g n:Nat} {xs:List Int} {W:World} (hn:xs.length=n) (r:W.heap[g]? = some (.cells (ints k xs) T)) (hB:g<B) (hm:n≤maxLen):RdK k B xs (.slice (some ⟨g,0,none⟩) n n) W :=
  QbF 0 hn r (fun i hi=>by rw [Nat.zero_add]; exact QaU k xs i (by omega)) hB (qR _) hm
theorem RdK.bytes {B : Nat} {ys:List Int} {v:Value} {W:World} (h:RdK .u8 B ys v W) (hb:Qav ys):Qex W v ys:=by
  obtain ⟨a,cap,rfl,h2,h3,h4,h5⟩:=h
  refine ⟨a,cap,rfl,by omega,hb,?_⟩
  rcases h5 with rfl | ⟨g,o,q1,q2,q3,q4⟩
  · exact .inl rfl
  · exact .inr ⟨g,o,q1,q3,q4⟩
theorem rdK_of_row {k : IntKind} {w:World} {a:Option Addr} {len cap:Nat} {zs:List Int} (h:QmH k w a len cap zs):RdK k w.heap.size (zs.take len) (.slice a len cap) w∧(zs.take len).length=len∧∀ n∈zs.take len,(Lit.int k n).wf=true:=by
  rcases h with ⟨rfl,rfl,rfl,rfl⟩ | ⟨x,rfl,hl,hm,hz,hc,hw⟩
  · exact ⟨⟨none,0,rfl,qR _,Nat.zero_le _,fun _=>rfl,.inl rfl⟩,rfl,fun n hn=>by simp at hn⟩
  · have hlen:(zs.take len).length=len:=by simp; omega
    refine ⟨⟨_,_,by rw [hlen],by omega,hm,(fun h=>by cases h),?_⟩,hlen,fun n hn=>hw n (List.mem_of_mem_take hn)⟩
    rcases Nat.eq_zero_or_pos len with h0 | h0
    · exact .inl (List.length_eq_zero_iff.1 (by omega))
    · obtain ⟨b,off,spot⟩:=x
      have hc0:=hc 0 (by omega)
      have hspot:spot=none:=by simpa [Addr.add] using World.cell?_spot hc0
      subst hspot
      have hc':∀ i,i<zs.length→w.cell? ⟨b,off+i,none⟩=some (.int k (zs.getD i 0)):=fun i hi=>by
        have:=hc i hi; rwa [WideShapes.add_plain] at this
      have hb:=Qd0 (hc' 0 (by omega))
      refine .inr ⟨b,off,rfl,hb,hb,fun i hi=>?_⟩
      rw [hlen] at hi
      rw [hc' i (by omega)]
      simp [nth,hi]
theorem Qm8 {P : Program} {k:IntKind} {T:TypeId} {b:Nat} (hi:(P.info? T).map (fun i=>(i.zero,i.size,i.bytes))=some (some (.int k 0),1,b)):∃ i,P.info? T=some i∧i.zero=some (.int k 0)∧i.size=1∧i.bytes=b:=by
  cases hq:P.info? T with
  | none=>rw [hq] at hi; cases hi
  | some i =>
    rw [hq] at hi
    simp only [Option.map_some,Option.some.injEq,Prod.mk.injEq] at hi
    exact ⟨i,rfl,hi.1,hi.2.1,hi.2.2⟩
theorem QlO (k : IntKind) (bs:List Int):∀ u∈bs.map (Value.int k),u.oneCell'=true:=fun u hu=>by
  obtain ⟨x,_,rfl⟩:=List.mem_map.1 hu
  rfl
theorem QlQ {k : IntKind} {g o:Nat} {ys:List Int} {W:World} (h:∀ i,i<ys.length→W.cell? ⟨g,o+i,none⟩=some (.int k (nth ys i))):∀ j u,(ys.map (Value.int k))[j]? = some u→W.cell? ((⟨g,o,none⟩:Addr).add j)=some u:=fun j u hu=>by
  have hj:j<ys.length:=by
    rcases Nat.lt_or_ge j ys.length with hj | hj
    · exact hj
    · rw [List.getElem?_eq_none (by simpa using hj)] at hu; cases hu
  rw [WideShapes.add_plain,h j hj,←hu,List.getElem?_map,List.getElem?_eq_getElem hj]
  simp [nth,hj]
theorem QdU {P : Program} {k:IntKind} {T:TypeId} {b:Nat} {ρ:Operand→Value} {o:Oper} {W:World} (s x:Operand) (t:TypeId) (ho:o.op=.call { callee:=.builtin .append,args:=#[s,x],argTypes:=#[t,t] })
    (ht:P.underlying t=some (.slice T)) (hi:(P.info? T).map (fun i=>(i.zero,i.size,i.bytes))=some (some (.int k 0),1,b)) (hb8:b≤8) {base B:Nat} {v y:Value} {xs ys:List Int} (hs:ρ s=v) (hx:ρ x=y)
    (h:OwnN k T base xs v W) (hy:RdK k B ys y W) (hn:xs.length+ys.length≤1000000000) (hbase:base≤W.heap.size) :
    ∃ v' W',(execOp ρ o).run P W=.ok (.value v') W'∧OwnN k T base (xs++ys) v' W'∧W.grownBy W' v.ownBlock∧(v'.ownBlock=v.ownBlock∨v'.ownBlock=some W.heap.size):=by
  obtain ⟨i,hq,hi1,hi2,hi3⟩:=Qm8 hi
  obtain ⟨a,cap,rfl,y2,y3,y4,y5⟩:=hy
  have hgo:∀ (v':Value) (W':World),(Builtin.append_ #[t,t] o.type #[v,.slice a ys.length cap]).run P W=.ok v' W'→(execOp ρ o).run P W=.ok (.value v') W':=fun v' W' hr=>by
    unfold execOp
    simp only [ho,resolve,invoke,builtin,Sem.run_bind,Sem.run_pure,Result.andThen_ok,List.map_toArray,List.map_cons,List.map_nil,hs,hx,hr]
  cases a with
  | none =>
    have hc0:=y4 rfl
    subst hc0
    have hy0:ys=[]:=List.length_eq_zero_iff.1 (by omega)
    subst hy0
    refine ⟨v,W,hgo _ _ (run_append_owned_none (P:=P) W base t o.type T i 1 ht hq v xs.length _ h.1),by rw [List.append_nil]; exact h,⟨rfl,rfl,rfl,qR _,fun _ _ _=>rfl⟩,.inl rfl⟩
  | some a =>
    have hnews:∀ j u,(ys.map (Value.int k))[j]? = some u→W.cell? (a.add j)=some u:=by
      rcases y5 with rfl | ⟨g,o,q1,q2,q3,q4⟩
      · intro j u hu; simp at hu
      · obtain rfl:=Option.some.inj q1
        exact QlQ q4
    obtain ⟨v',W',hr,h2,h3,_,h5⟩:=run_append_own_at (P:=P) W base t o.type T i (.int k 0) 1 b ht hq hi1 hi2 hi3 rfl (by omega) v xs.length (xs.map (Value.int k)) h.1 a ys.length cap (ys.map (Value.int k)) (by simp)
      hnews (QlO k ys) (by simp only [maxLen]; omega) (by
        have:(xs.length+ys.length)*b≤1000000000*8:=Nat.mul_le_mul hn hb8
        omega) hbase
    refine ⟨v',W',hgo _ _ hr,⟨by rw [List.length_append,List.map_append]; exact h2,by rw [List.length_append]; simp only [maxLen]; omega⟩,h3,h5⟩
theorem Qge {k : IntKind} {T:TypeId} {xs:List Int} {v:Value} {V W W':World} (e:Ext V W) (h:OwnN k T V.heap.size xs v W) (g:W.grownBy W' v.ownBlock):Ext V W' :=
  ⟨g.os.trans e.os,g.tape.trans e.tape,g.output.trans e.output,qT e.size g.size,fun i hi=>(g.block i (qL hi e.size) (fun q=>by have:=h.ge q.symm; omega)).trans (e.block i hi)⟩
section
variable {P : Program} {ops : Array Oper} {Q : Exit → Act → World → Prop} {rest : List Oper} {o : Oper} {N : Nat} {L : Env} {W : World}
theorem QaP {k : IntKind} {T:TypeId} (b:Nat) (s x:Operand) (t:TypeId) (ho:o.op=.call { callee:=.builtin .append,args:=#[s,x],argTypes:=#[t,t] })
    (ht:P.underlying t=some (.slice T)) (hi:(P.info? T).map (fun i=>(i.zero,i.size,i.bytes))=some (some (.int k 0),1,b)) (hb8:b≤8) (d:Nat) (hd:o.dst=some d) (hg:Qbu ops o N L=some true) {B:Nat} {v y:Value} {xs ys:List Int} {V:World}
    (hs:Rely.look (envN N L) s=v) (hx:Rely.look (envN N L) x=y)
    (h:OwnN k T V.heap.size xs v W) (hy:RdK k B ys y W) (hn:xs.length+ys.length≤1000000000) (hV:Ext V W)
    (kk:∀ (u:Value) (W':World),OwnN k T V.heap.size (xs++ys) u W'→Ext V W'→Below V.heap.size W W'→WL P ops Q rest (Qa3 ds N ((d,u)::L)) W'):WL P ops Q (o::rest) (Qa3 ds N L) W:=by
  obtain ⟨v',W',h1,h2,h3,h4⟩:=QdU (ρ:=Rely.look (envN N L)) (o:=o) (W:=W) s x t ho ht hi hb8 hs hx h hy hn hV.size
  exact QbI _ _ d hd hg h1 (kk v' W' h2 (Qge hV h h3) ⟨h3.os,h3.tape,h3.output,h3.size,fun i hi=>h3.block i (qL hi hV.size) (fun q=>by have:=h.ge q.symm; omega)⟩)
end
section
variable {P : Program} {ρ : Operand → Value} {o : Oper} {w : World}
theorem Qe9 (t : TypeId) (x:Operand) (lo hi:Option Operand) (l h n g off:Nat) (e:TypeId) (ho:o.op=.slice t x lo hi none) (hx:ρ x=.pointer (some ⟨g,off,none⟩))
    (hu:P.underlying t=some (.array n e)) (hs:(P.info? e).map (·.size)=some 1) (hl:(match lo with | some y=>∃ k,ρ y=.int k (l:Int) | none=>l=0)) (hh:(match hi with | some y=>∃ k,ρ y=.int k (h:Int) | none=>h=n)) (h1:l≤h) (h2:h≤n) (h3:l<n) :
    (execOp ρ o).run P w=.ok (.value (.slice (some ⟨g,off+l,none⟩) (h-l) (n-l))) w:=by
  cases hq:P.info? e with
  | none=>simp [hq] at hs
  | some i =>
    have hs':i.size=1:=by simpa [hq] using hs
    have hadd:(⟨g,off,none⟩:Addr).add l=⟨g,off+l,none⟩:=WideShapes.add_plain ..
    have hne:¬ n=l:=by omega
    unfold execOp
    cases lo with
    | none =>
      subst hl
      cases hi with
      | none =>
        subst hh
        simp [ho,hx,Instr.sliceAt,Instr.sureAddr,Instr.sliceBounds,run_underlying hu,sizeOf,typeInfo,hq,hs',hadd,hne]
      | some y =>
        obtain ⟨k,hy⟩:=hh
        simp [ho,hx,hy,Instr.sliceAt,Instr.sureAddr,Instr.sliceBounds,run_sliceBound,run_underlying hu,sizeOf,typeInfo,hq,hs',hadd,hne,h2]
    | some z =>
      obtain ⟨k',hz⟩:=hl
      cases hi with
      | none =>
        subst hh
        simp [ho,hx,hz,Instr.sliceAt,Instr.sureAddr,Instr.sliceBounds,run_sliceBound,run_underlying hu,sizeOf,typeInfo,hq,hs',hadd,hne,h1]
      | some y =>
        obtain ⟨k,hy⟩:=hh
        simp [ho,hx,hy,hz,Instr.sliceAt,Instr.sureAddr,Instr.sliceBounds,run_sliceBound,run_underlying hu,sizeOf,typeInfo,hq,hs',hadd,hne,h1,h2]
theorem QeU {k : IntKind} {B:Nat} {ys:List Int} {v:Value} (t:TypeId) (x z:Operand) (l:Nat) (e:TypeId) (ho:o.op=.slice t x (some z) none none) (hx:ρ x=v) (hv:RdK k B ys v w)
    (hu:P.underlying t=some (.slice e)) (hs:(P.info? e).map (·.size)=some 1) (kz:IntKind) (hz:ρ z=.int kz (l:Int)) (h1:l≤ys.length) :
    ∃ u,(execOp ρ o).run P w=.ok (.value u) w∧RdK k B (ys.drop l) u w∧u.ownBlock=v.ownBlock:=by
  obtain ⟨a,cap,rfl,y2,y3,y4,y5⟩:=hv
  cases hq:P.info? e with
  | none=>simp [hq] at hs
  | some i =>
    have hs':i.size=1:=by simpa [hq] using hs
    refine ⟨.slice (if cap=l then a else a.map (·.add l)) (ys.length-l) (cap-l),?_,?_⟩
    · unfold execOp
      simp [ho,hx,hz,Instr.sliceAt,Instr.slice,Instr.sliceBounds,run_sliceBound,run_underlying hu,sizeOf,typeInfo,hq,hs',h1]
    · refine ⟨⟨_,_,by rw [List.length_drop],by rw [List.length_drop]; omega,by omega,fun h=>?_,?_⟩,?_⟩
      · cases a with
        | none=>have:=y4 rfl; omega
        | some a=>split at h <;> simp at h
      rotate_left
      · cases a with
        | none=>split <;> rfl
        | some a =>
          split
          · rfl
          · have e:∀ a:Addr,(a.add l).block=a.block:=fun a=>by unfold Addr.add; split <;> rfl
            exact congrArg some (e a)
      · rcases y5 with rfl | ⟨g,off,rfl,q2,q3,q4⟩
        · exact .inl (by simp)
        · by_cases hl:l=ys.length
          · exact .inl (by rw [hl]; simp)
          · refine .inr ⟨g,off+l,?_,q2,q3,fun i hi=>?_⟩
            · rw [if_neg (by omega),Option.map_some,WideShapes.add_plain]
            · rw [List.length_drop] at hi
              rw [Nat.add_assoc,q4 (l+i) (by omega)]
              simp [nth]
end
end Go.Proofs.YthfkppjajmjpnaaDoor.Auto
end
section
namespace Go.Proofs.YthfkppjajmjpnaaDoor.Sha
open Go Go.RowKit
open Rely Auto
abbrev Wd := BitVec 32
def wv (x : Wd):Int:=(x.toNat:Int)
def rr (x : Wd) (n:Nat):Wd:=x<<<(32-n)|||x>>>n
structure S8 where
  a:Wd
  b:Wd
  c:Wd
  d:Wd
  e:Wd
  f:Wd
  g:Wd
  h:Wd
def rnd1 (k w:Wd) (s:S8):Wd:=s.h+(rr s.e 6^^^rr s.e 11^^^rr s.e 25)+((s.e&&&s.f)^^^(~~~s.e&&&s.g))+k+w
def rnd2 (s : S8):Wd:=(rr s.a 2^^^rr s.a 13^^^rr s.a 22)+((s.a&&&s.b)^^^(s.a&&&s.c)^^^(s.b&&&s.c))
def rnd (k w:Wd) (s:S8):S8:=⟨rnd1 k w s+rnd2 s,s.a,s.b,s.c,s.d+rnd1 k w s,s.e,s.f,s.g⟩
def sig1 (x : Wd):Wd:=rr x 17^^^rr x 19^^^x>>>10
def sig0 (x : Wd):Wd:=rr x 7^^^rr x 18^^^x>>>3
def wget (ws : List Wd) (i:Nat):Wd:=ws.getD i 0
def wnext (ws : List Wd):Wd:=let i:=ws.length; sig1 (wget ws (i-2))+wget ws (i-7)+sig0 (wget ws (i-15))+wget ws (i-16)
def wmore (ws : List Wd):Nat→List Wd
  | 0=>ws
  | n+1=>wmore ws n++[wnext (wmore ws n)]
def be4 (a b c d:Int):Wd:=BitVec.ofInt 32 (((a*256+b)*256+c)*256+d)
def w16 (b : List Int):List Wd:=(List.range 16).map fun i=>be4 (nth b (4*i)) (nth b (4*i+1)) (nth b (4*i+2)) (nth b (4*i+3))
def w64 (b : List Int):List Wd:=wmore (w16 b) 48
def rnds (K ws:List Wd) (s:S8):Nat→S8
  | 0=>s
  | n+1=>rnd (wget K n) (wget ws n) (rnds K ws s n)
def S8.add (s t:S8):S8:=⟨s.a+t.a,s.b+t.b,s.c+t.c,s.d+t.d,s.e+t.e,s.f+t.f,s.g+t.g,s.h+t.h⟩
def QjK : List Nat:=[0x428a2f98d728ae22,0x7137449123ef65cd,0xb5c0fbcfec4d3b2f,0xe9b5dba58189dbbc,0x3956c25bf348b538,0x59f111f1b605d019,0x923f82a4af194f9b,0xab1c5ed5da6d8118,0xd807aa98a3030242,0x12835b0145706fbe,0x243185be4ee4b28c,0x550c7dc3d5ffb4e2,0x72be5d74f27b896f,0x80deb1fe3b1696b1,0x9bdc06a725c71235,0xc19bf174cf692694,0xe49b69c19ef14ad2,0xefbe4786384f25e3,0x0fc19dc68b8cd5b5,0x240ca1cc77ac9c65,0x2de92c6f592b0275,0x4a7484aa6ea6e483,0x5cb0a9dcbd41fbd4,0x76f988da831153b5,0x983e5152ee66dfab,0xa831c66d2db43210,0xb00327c898fb213f,0xbf597fc7beef0ee4,0xc6e00bf33da88fc2,0xd5a79147930aa725,0x06ca6351e003826f,0x142929670a0e6e70,0x27b70a8546d22ffc,0x2e1b21385c26c926,0x4d2c6dfc5ac42aed,0x53380d139d95b3df,0x650a73548baf63de,0x766a0abb3c77b2a8,0x81c2c92e47edaee6,0x92722c851482353b,0xa2bfe8a14cf10364,0xa81a664bbc423001,0xc24b8b70d0f89791,0xc76c51a30654be30,0xd192e819d6ef5218,0xd69906245565a910,0xf40e35855771202a,0x106aa07032bbd1b8,0x19a4c116b8d2d0c8,0x1e376c085141ab53,0x2748774cdf8eeb99,0x34b0bcb5e19b48a8,0x391c0cb3c5c95a63,0x4ed8aa4ae3418acb,0x5b9cca4f7763e373,0x682e6ff3d6b2b8a3,0x748f82ee5defb2fc,0x78a5636f43172f60,0x84c87814a1f0ab72,0x8cc702081a6439ec,0x90befffa23631e28,0xa4506cebde82bde9,0xbef9a3f7b2c67915,0xc67178f2e372532b,0xca273eceea26619c,0xd186b8c721c0c207,0xeada7dd6cde0eb1e,0xf57d4f7fee6ed178,0x06f067aa72176fba,0x0a637dc5a2c898a6,0x113f9804bef90dae,0x1b710b35131c471b,0x28db77f523047d84,0x32caab7b40c72493,0x3c9ebe0a15c9bebc,0x431d67c49c100d4c,0x4cc5d4becb3e42b6,0x597f299cfc657e2a,0x5fcb6fab3ad6faec,0x6c44198c4a475817]
def KK : List Wd:=(QjK.take 64).map fun n=>BitVec.ofNat 32 (n/4294967296)
def S0 : S8:=⟨0x6a09e667,0xbb67ae85,0x3c6ef372,0xa54ff53a,0x510e527f,0x9b05688c,0x1f83d9ab,0x5be0cd19⟩
def blk (s : S8) (b:List Int):S8:=s.add (rnds KK (w64 b) s 64)
def absorb (s : S8) (t:List Int):Nat→S8
  | 0=>s
  | n+1=>blk (absorb s t n) ((t.drop (64*n)).take 64)
def S8.l (s : S8):List Wd:=[s.a,s.b,s.c,s.d,s.e,s.f,s.g,s.h]
def wby (x : Wd):List Int:=[((x.toNat/16777216%256:Nat):Int),((x.toNat/65536%256:Nat):Int),((x.toNat/256%256:Nat):Int),((x.toNat/1%256:Nat):Int)]
def S8.out (s : S8):List Int:=s.l.flatMap wby
def be8 (n : Nat):List Int:=[((n/72057594037927936%256:Nat):Int),((n/281474976710656%256:Nat):Int),((n/1099511627776%256:Nat):Int),((n/4294967296%256:Nat):Int),((n/16777216%256:Nat):Int),((n/65536%256:Nat):Int),((n/256%256:Nat):Int),((n/1%256:Nat):Int)]
def QaF (n : Nat):Nat:=(64-(n+9)%64)%64
def QdJ (n : Nat):List Int:=128::(List.replicate (QaF n) 0++be8 (8*n))
def padT (t : List Int):List Int:=t++QdJ t.length
def dig (t : List Int):List Int:=(absorb S0 (padT t) ((padT t).length/64)).out
def fill (xs : List Int) (n m:Nat):List Int:=xs.take m++List.replicate (n-m) 0
theorem Qbx {xs : List Int} {n m:Nat} (hx:xs.length=n) (hm:m≤n):(fill xs n m).length=n:=by
  simp [fill]; omega
theorem Qdo (xs : List Int) (n:Nat):fill xs n 0=List.replicate n 0:=by simp [fill]
theorem Qdp {xs : List Int} {n:Nat} (hx:xs.length=n):fill xs n n=xs:=by simp [fill,←hx]
theorem QcJ {xs : List Int} {n m:Nat} (hx:xs.length=n) (hm:m<n):(fill xs n m).set m (nth xs m)=fill xs n (m+1):=by
  unfold fill
  have e:n-m=(n-(m+1))+1:=by omega
  rw [e,List.replicate_succ]
  have hl:(xs.take m).length=m:=by rw [List.length_take]; omega
  rw [List.set_append_right _ _ (by omega),hl,Nat.sub_self,List.set_cons_zero,List.take_add_one,List.getElem?_eq_getElem (by omega),List.append_assoc]
  simp [nth,show m<xs.length by omega]
theorem QdT {xs : List Int} {n m j:Nat} (hx:xs.length=n) (hm:m≤n) (hj:j<m):nth (fill xs n m) j=nth xs j:=by
  unfold fill nth
  rw [List.getD_eq_getElem?_getD,List.getElem?_append_left (by rw [List.length_take]; omega),List.getElem?_take_of_lt hj,←List.getD_eq_getElem?_getD]
theorem Qik {xs : List Int} {n m j:Nat} (hx:xs.length=n) (hm:m≤j):nth (fill xs n m) j=0:=by
  unfold fill nth
  rw [List.getD_eq_getElem?_getD]
  rcases Nat.lt_or_ge m n with h | h
  · rw [List.getElem?_append_right (by rw [List.length_take]; omega),List.getElem?_replicate]
    split <;> rfl
  · rw [List.getElem?_eq_none (by simp; omega)]; rfl
theorem Qf7 {xs : List Int} {i:Nat} {v:Int} (h:i<xs.length):nth (xs.set i v) i=v:=by simp [nth,h]
theorem QbG (ws : List Wd) (i:Nat):nth (ws.map wv) i=wv (wget ws i):=by
  simp only [nth,wget,List.getD_eq_getElem?_getD,List.getElem?_map]
  cases ws[i]? <;> rfl
theorem QdV (x : Int):IntKind.u32.wrap x=x%4294967296:=by
  have:IntKind.u32.wrap x=x%2^32:=rfl
  rw [this]; rfl
theorem QbT (x y:Wd):IntKind.u32.wrap (wv x+wv y)=wv (x+y):=by
  rw [QdV]; unfold wv; rw [BitVec.toNat_add]; omega
theorem Qgw (x : Wd):BitVec.ofInt 32 (wv x)=x:=by
  apply BitVec.eq_of_toNat_eq
  have:=x.isLt
  simp only [BitVec.toNat_ofInt,wv]
  omega
theorem QeJ (n : Int):wv (BitVec.ofInt 32 n)=n%4294967296:=by
  simp only [wv,BitVec.toNat_ofInt]; omega
theorem Qhl (op : BinOp) (x y:Wd) (z:Wd) (h:z=match op with | .and=>x&&&y | .or=>x|||y | .xor=>x^^^y | _=>x &&& ~~~y):bits op .u32 (wv x) (wv y)=wv z:=by
  subst h
  unfold bits
  show IntKind.u32.wrap _=_
  rw [QdV]
  have h1:BitVec.ofInt IntKind.u32.bits (wv x)=x:=Qgw x
  have h2:BitVec.ofInt IntKind.u32.bits (wv y)=y:=Qgw y
  simp only [h1,h2]
  cases op <;> (simp only [wv]; exact Int.emod_eq_of_lt (by omega) (Int.ofNat_lt.2 (BitVec.isLt _)))
theorem Qe0 (x y:Wd):bits .and .u32 (wv x) (wv y)=wv (x&&&y):=Qhl .and x y _ rfl
theorem w_or (x y:Wd):bits .or .u32 (wv x) (wv y)=wv (x|||y):=Qhl .or x y _ rfl
theorem w_xor (x y:Wd):bits .xor .u32 (wv x) (wv y)=wv (x^^^y):=Qhl .xor x y _ rfl
theorem Qfs (x : Wd) (c:Int) (n:Nat) (hc:c=n) (hn:n≤32):(wv x).fdiv (2^min c.toNat IntKind.u32.bits)=wv (x>>>n):=by
  subst hc
  have hm:min ((n:Int)).toNat IntKind.u32.bits=n:=by show min ((n:Int)).toNat 32=n; omega
  rw [hm,Int.fdiv_eq_ediv_of_nonneg _ (Int.le_of_lt (Int.pow_pos (by decide)))]
  unfold wv
  rw [BitVec.toNat_ushiftRight,Nat.shiftRight_eq_div_pow,Int.natCast_ediv,Int.natCast_pow]
  rfl
theorem QjW (x : Wd) (c:Int) (n:Nat) (hc:c=n) (hn:n≤32):IntKind.u32.wrap (wv x*2^min c.toNat IntKind.u32.bits)=wv (x<<<n):=by
  subst hc
  have hm:min ((n:Int)).toNat IntKind.u32.bits=n:=by show min ((n:Int)).toNat 32=n; omega
  rw [hm,QdV]
  unfold wv
  rw [BitVec.toNat_shiftLeft,Nat.shiftLeft_eq]
  have e:((x.toNat:Nat):Int)*2^n=((x.toNat*2^n:Nat):Int):=by rw [Int.natCast_mul,Int.natCast_pow]; rfl
  rw [e]; omega
theorem Qmt (x : Wd):IntKind.u32.wrap (4294967295-wv x)=wv (~~~x):=by
  rw [QdV]; unfold wv; rw [BitVec.toNat_not]; have:=x.isLt; omega
theorem Ql2 (x : Wd) (n:Nat) (h:0<n) (hn:n<32):x>>>n+x<<<(32-n)=rr x n:=by
  unfold rr
  rw [BitVec.or_comm]
  refine BitVec.add_eq_or_of_and_eq_zero _ _ ?_
  apply BitVec.eq_of_getLsbD_eq
  intro i hi
  simp only [BitVec.getLsbD_and,BitVec.getLsbD_ushiftRight,BitVec.getLsbD_shiftLeft,BitVec.getLsbD_zero]
  rcases Nat.lt_or_ge i (32-n) with h1 | h1
  · simp [h1]
  · rw [BitVec.getLsbD_of_ge _ _ (show 32≤n+i by omega)]; rfl
end Go.Proofs.YthfkppjajmjpnaaDoor.Sha
end
section
namespace Go.Proofs.YthfkppjajmjpnaaDoor.Auto
open Go Go.RowKit
open Rely Own
theorem i64n (a : Int) (m:Nat) (e:a=(m:Int)) (h:m≤9000000000000000000):IntKind.i64.wrap a=(m:Int):=by subst e; exact IntWalk.i64_in _ (by omega)
theorem Qb1 {n g:Nat} {W W':World} {ob:Obj} (h:Below n W W') (r:W.heap[g]? = some ob) (hl:g<n):W'.heap[g]? = some ob:=(h.block g hl).trans r
theorem Ext.low {w W W':World} {n:Nat} (h:Ext w W) (l:Below n W W') (hn:w.heap.size≤n):Ext w W' :=
  ⟨l.os.trans h.os,l.tape.trans h.tape,l.output.trans h.output,qT h.size l.size,fun k hk=>(l.block k (by omega)).trans (h.block k hk)⟩
theorem ExtB.low {w W W':World} {n g:Nat} (h:ExtB g w W) (l:Below n W W') (hn:w.heap.size≤n):ExtB g w W' :=
  ⟨l.os.trans h.1,l.tape.trans h.2.1,l.output.trans h.2.2.1,qT h.2.2.2.1 l.size,fun k hk hne=>(l.block k (by omega)).trans (h.2.2.2.2 k hk hne)⟩
theorem ExtB.putsN {w W W':World} {g c:Nat} (h:ExtB g w W) (p:Puts W c W') (hc:w.heap.size≤c):ExtB g w W' :=
  ⟨p.1.trans h.1,p.2.1.trans h.2.1,p.2.2.1.trans h.2.2.1,by have:=h.2.2.2.1; have:=p.2.2.2.1; omega,fun k hk hn=>(p.2.2.2.2 k (by omega)).trans (h.2.2.2.2 k hk hn)⟩
end Go.Proofs.YthfkppjajmjpnaaDoor.Auto
namespace Go.Proofs.YthfkppjajmjpnaaDoor.Own
open Go Go.RowKit
theorem ExtB.size {w W:World} {g:Nat} (h:ExtB g w W):w.heap.size≤W.heap.size:=h.2.2.2.1
end Go.Proofs.YthfkppjajmjpnaaDoor.Own
namespace Go.Proofs.YthfkppjajmjpnaaDoor.Auto
open Go Go.RowKit
open Rely Own
structure Qa8 (gs : List Nat) (V W : World) : Prop where
  os:W.os=V.os
  tape:W.tape=V.tape
  output:W.output=V.output
  size:V.heap.size≤W.heap.size
  block:∀ k,k<V.heap.size→k∉gs→W.heap[k]? = V.heap[k]?
theorem Qa8.refl (gs : List Nat) (V:World):Qa8 gs V V:=⟨rfl,rfl,rfl,qR _,fun _ _ _=>rfl⟩
theorem Qb9 {b : Nat}:b∉([]:List Nat):=by simp
theorem Qbz {b g:Nat} {gs:List Nat} (h:b≠g) (k:b∉gs):b∉g::gs:=by simp [h,k]
theorem Qf5 {p : Nat→Prop}:∀ c∈([]:List Nat),p c:=by simp
theorem Qek {p : Nat→Prop} {g:Nat} {gs:List Nat} (h:p g) (k:∀ c∈gs,p c):∀ c∈g::gs,p c:=by
  intro c hc
  rcases List.mem_cons.1 hc with rfl | hc
  · exact h
  · exact k c hc
theorem Qa8.row {gs : List Nat} {V W:World} {b:Nat} {ob:Obj} (h:Qa8 gs V W) (r:V.heap[b]? = some ob) (hn:b∉gs):W.heap[b]? = some ob:=(h.block b (Qa5 r) hn).trans r
theorem Qa8.step {gs : List Nat} {V W W':World} (h:Qa8 gs V W) (e:Ext W W'):Qa8 gs V W' :=
  ⟨e.os.trans h.os,e.tape.trans h.tape,e.output.trans h.output,qT h.size e.size,fun k hk hn=>(e.block k (qL hk h.size)).trans (h.block k hk hn)⟩
theorem Qa8.puts {gs : List Nat} {V W W':World} {c:Nat} (h:Qa8 gs V W) (p:Puts W c W') (hc:c∈gs∨V.heap.size≤c):Qa8 gs V W' :=
  ⟨p.1.trans h.os,p.2.1.trans h.tape,p.2.2.1.trans h.output,by have:=h.size; have:=p.2.2.2.1; omega,fun k hk hn=>(p.2.2.2.2 k (fun e=>by subst e; rcases hc with hc | hc; exact hn hc; omega)).trans (h.block k hk hn)⟩
theorem Qa8.but {gs : List Nat} {V W W':World} {c:Nat} (h:Qa8 gs V W) (p:ExtB c W W') (hc:c∈gs∨V.heap.size≤c):Qa8 gs V W' :=
  ⟨p.1.trans h.os,p.2.1.trans h.tape,p.2.2.1.trans h.output,qT h.size p.2.2.2.1,fun k hk hn=>(p.2.2.2.2 k (qL hk h.size) (fun e=>by subst e; rcases hc with hc | hc; exact hn hc; omega)).trans (h.block k hk hn)⟩
theorem Qa8.low {gs : List Nat} {V W W':World} {n:Nat} (h:Qa8 gs V W) (l:Below n W W') (hn:V.heap.size≤n):Qa8 gs V W' :=
  ⟨l.os.trans h.os,l.tape.trans h.tape,l.output.trans h.output,qT h.size l.size,fun k hk hm=>(l.block k (by omega)).trans (h.block k hk hm)⟩
theorem Qa8.keeps {gs hs:List Nat} {V W W':World} (h:Qa8 gs V W) (q:Qa8 hs W W') (hc:∀ c∈hs,c∈gs∨V.heap.size≤c):Qa8 gs V W' :=
  ⟨q.os.trans h.os,q.tape.trans h.tape,q.output.trans h.output,qT h.size q.size,fun k hk hn=>(q.block k (qL hk h.size) (fun hm=>by rcases hc k hm with e | e; exact hn e; omega)).trans (h.block k hk hn)⟩
theorem Qa8.ext {hs : List Nat} {V W W':World} (q:Qa8 hs W W') (h:Ext V W) (hc:∀ c∈hs,V.heap.size≤c):Ext V W' :=
  ⟨q.os.trans h.os,q.tape.trans h.tape,q.output.trans h.output,qT h.size q.size,fun k hk=>(q.block k (qL hk h.size) (fun hm=>by have:=hc k hm; omega)).trans (h.block k hk)⟩
theorem OwnN.low {k : IntKind} {T:TypeId} {base n:Nat} {xs:List Int} {v:Value} {V W W':World} (h:OwnN k T base xs v W) (hV:OwnN k T base xs v V) (l:Below V.heap.size W W'):OwnN k T base xs v W':=h.keep fun g hg=>l.block g (hV.lt hg)
theorem RdK.low {k : IntKind} {B:Nat} {xs:List Int} {v:Value} {V W W':World} (h:RdK k B xs v W) (hV:RdK k B xs v V) (l:Below V.heap.size W W'):RdK k B xs v W':=by
  obtain ⟨a,cap,rfl,h2,h3,h4,h5⟩:=h
  refine ⟨a,cap,rfl,h2,h3,h4,?_⟩
  rcases h5 with h5 | ⟨g,o,q1,q2,q3,q4⟩
  · exact .inl h5
  · rcases Nat.eq_zero_or_pos xs.length with h0 | h0
    · exact .inl (List.length_eq_zero_iff.1 h0)
    · obtain ⟨a',cap',e,-,-,-,h5'⟩:=hV
      simp only [Value.slice.injEq] at e
      obtain ⟨rfl,-,rfl⟩:=e
      have hlt:g<V.heap.size:=by
        rcases h5' with h5' | ⟨g',o',e',-,q3',-⟩
        · rw [h5'] at h0; simp at h0
        · rw [q1] at e'; simp only [Option.some.injEq,Addr.mk.injEq] at e'; rw [e'.1]; exact q3'
      exact .inr ⟨g,o,q1,q2,qL q3 l.size,fun i hi=>by rw [←q4 i hi]; exact World.cell?_of_block (l.block g hlt)⟩
theorem RdK.puts {k : IntKind} {B c:Nat} {ys:List Int} {v:Value} {W W':World} (h:RdK k B ys v W) (p:Puts W c W') (hc:B≤c):RdK k B ys v W':=h.keep (qE p.2.2.2.1.symm) fun g hg _=>p.2.2.2.2 g (by omega)
theorem OwnN.puts {k : IntKind} {T:TypeId} {base c:Nat} {xs:List Int} {v:Value} {W W':World} (h:OwnN k T base xs v W) (p:Puts W c W') (hc:v.ownBlock≠some c):OwnN k T base xs v W':=h.keep fun g hg=>p.2.2.2.2 g (fun e=>hc (by rw [hg,e]))
theorem RdK.keepN {k : IntKind} {B:Nat} {ys:List Int} {v:Value} {W W':World} (h:RdK k B ys v W) (hs:W.heap.size≤W'.heap.size) (hk:∀ g,v.ownBlock=some g→g<W.heap.size→W'.heap[g]? = W.heap[g]?):RdK k B ys v W':=by
  obtain ⟨a,cap,rfl,h2,h3,h4,h5⟩:=h
  refine ⟨a,cap,rfl,h2,h3,h4,h5.imp id ?_⟩
  rintro ⟨g,o,rfl,q2,q3,q4⟩
  refine ⟨g,o,rfl,q2,qL q3 hs,fun i hi=>?_⟩
  rw [←q4 i hi]
  exact World.cell?_of_block (hk g rfl q3)
theorem RdK.extN {k : IntKind} {B g:Nat} {ys:List Int} {v:Value} {W W':World} (h:RdK k B ys v W) (e:ExtB g W W') (hn:v.ownBlock≠some g):RdK k B ys v W':=h.keepN e.2.2.2.1 fun i hi hl=>e.2.2.2.2 i hl (fun q=>hn (by rw [hi,q]))
theorem RdK.putsN {k : IntKind} {B c:Nat} {ys:List Int} {v:Value} {W W':World} (h:RdK k B ys v W) (p:Puts W c W') (hn:v.ownBlock≠some c):RdK k B ys v W':=h.keepN (qE p.2.2.2.1.symm) fun g hg _=>p.2.2.2.2 g (fun q=>hn (by rw [hg,q]))
theorem RdK.here {k : IntKind} {B:Nat} {ys:List Int} {v:Value} {W:World} (h:RdK k B ys v W):RdK k W.heap.size ys v W:=by
  obtain ⟨a,cap,rfl,h2,h3,h4,h5⟩:=h
  exact ⟨a,cap,rfl,h2,h3,h4,h5.imp id fun ⟨g,o,q1,q2,q3,q4⟩=>⟨g,o,q1,q3,q3,q4⟩⟩
theorem RdK.nb {k : IntKind} {B g:Nat} {ys:List Int} {v:Value} {W:World} (h:RdK k B ys v W) (hB:B≤g):ys=[]∨v.ownBlock≠some g:=by
  obtain ⟨a,cap,rfl,h2,h3,h4,h5⟩:=h
  refine h5.imp id ?_
  rintro ⟨g',o,rfl,q2,q3,q4⟩ e
  have:g'=g:=Option.some.inj e
  omega
theorem OwnN.nb {k : IntKind} {T:TypeId} {base g:Nat} {xs:List Int} {v:Value} {W:World} (h:OwnN k T base xs v W) (hg:g<base):v.ownBlock≠some g:=fun e=>by have:=h.ge e; omega
theorem RdK.keeps {k : IntKind} {B:Nat} {gs:List Nat} {ys:List Int} {v:Value} {V W:World} (h:RdK k B ys v V) (q:Qa8 gs V W) (hc:∀ c∈gs,B≤c):RdK k B ys v W:=h.keep q.size fun g hg hl=>q.block g hl (fun hm=>by have:=hc g hm; omega)
theorem Qaw (k : IntKind) (xs:List Int):(ints k xs).all (·.oneCell')=true:=by
  rw [←Array.all_toList,List.all_eq_true]
  intro v hv
  simp only [ints,List.mem_map] at hv
  obtain ⟨x,_,rfl⟩:=hv
  rfl
theorem Qe2 {P : Program} (W:World) {t e:TypeId} {n:Nat} {k ki:IntKind} (ht:P.underlying t=some (.array n e)) (he:P.underlying e=some (.int k)) (hq:(P.info? e).map (·.size)=some 1)
    (xs:List Int) (hl:xs.length=n) (i:Nat) (hi:i<n):(Instr.index t (.agg (ints k xs)) (.int ki (i:Int))).run P W=.ok (.int k (nth xs i)) W:=by
  have hp:P.plainKey e=true:=by simp [Program.plainKey,he]
  have a1:=run_part_plain W hp (QaU k xs i (by omega))
  unfold Instr.index
  cases hI:P.info? e with
  | none=>simp [hI] at hq
  | some inf =>
    have hs:inf.size=1:=by simpa [hI] using hq
    have h1:((0:Int)≤(i:Int)∧(i:Int)<(n:Int)):=by omega
    simp [asIntOf,run_underlying ht,Sem.run_bind,sizeOf,typeInfo,hI,hs,hi,a1]
theorem QbW {P : Program} {ρ:Operand→Value} {o:Oper} {w:World} (t:TypeId) (x y:Operand) (ki k:IntKind) (xs:List Int) (i n:Nat) (e:TypeId) (v:Int) (ho:o.op=.index t x y) (hx:ρ x=.agg (ints k xs)) (hy:ρ y=.int ki (i:Int))
    (ht:P.underlying t=some (.array n e)) (he:P.underlying e=some (.int k)) (hq:(P.info? e).map (·.size)=some 1) (hl:xs.length=n) (hi:i<n) (hv:nth xs i=v):(execOp ρ o).run P w=.ok (.value (.int k v)) w:=by
  have h:=Qe2 (P:=P) w (ki:=ki) ht he hq xs hl i hi
  rw [hv] at h
  unfold execOp
  simp only [ho,hx,hy,Sem.run_bind,h,Result.andThen_ok,Sem.run_pure]
theorem QiE {k : IntKind} (pre post:List (Array Value)) (xs:List Int) (n0 i:Nat) (v:Int) (hp:(cat pre).size=n0) (hi:i<xs.length) :
    (cat (pre++([ints k xs]++post))).setIfInBounds (n0+i) (.int k v)=cat (pre++([ints k (xs.set i v)]++post)):=by
  subst hp
  rw [QaA,QaA,QaA,QaA]
  have e1:∀ z,cat [ints k z]=ints k z:=fun z=>rfl
  rw [e1,e1,←Qg6]
  have hz:i<(ints k xs).size:=by rw [Qae]; exact hi
  rw [Array.setIfInBounds_append_right (by omega),Nat.add_sub_cancel_left,Array.setIfInBounds_append_left hz]
theorem Qe8 {P : Program} {ρ:Operand→Value} {o:Oper} {w:World} {k:IntKind} (ty:TypeId) (x y:Operand) (g off:Nat) (t:TypeId) (pre post:List (Array Value)) (xs:List Int) (n0 i:Nat) (v:Int) (hg:w.heap[g]? = some (.cells (cat (pre++([ints k xs]++post))) t))
    (ho:o.op=.store ty x y) (hx:ρ x=.pointer (some ⟨g,off,none⟩)) (hy:ρ y=.int k v) (hi:(P.info? ty).map (·.size)=some 1) (hp:(cat pre).size=n0) (hoff:off=n0+i) (hix:i<xs.length) :
    (execOp ρ o).run P w=.ok .skip (w.setRow g (cat (pre++([ints k (xs.set i v)]++post)))):=by
  subst hoff
  have hs:Nat.blt (n0+i) (cat (pre++([ints k xs]++post))).size=true:=by
    have:n0+i<(cat (pre++([ints k xs]++post))).size:=by
      rw [QaA,QaA,qS,qS,hp]
      have e1:(cat [ints k xs]).size=xs.length:=Qae k xs
      omega
    simpa using this
  rw [←QiE pre post xs n0 i v hp hix]
  exact QaW ty x y g (n0+i) t _ (.int k v) hg ho hx hy hi hs rfl rfl
theorem Qbw {k : IntKind} (pre post:List (Array Value)) (xs:List Int) (n0 i off:Nat) (hp:(cat pre).size=n0) (hoff:off=n0+i) (hi:i<xs.length):(cat (pre++([ints k xs]++post)))[off]? = some (.int k (nth xs i)):=by
  subst hoff
  exact Qaj pre [ints k xs] post n0 hp i _ (QaU k xs i hi)
theorem Qa7 (v : Value) (h:v.oneCell'=true):(#[v].all (·.oneCell'))=true:=by simp [h]
theorem QaO {P : Program} (t:TypeId) {e:TypeId} {k:IntKind} (xs ys:List Int) {n:Nat} {b:Bool} (h:decide (xs=ys)=b) (hx:xs.length=n) (hy:ys.length=n) (ht:P.underlying t=some (.array n e)) (he:P.underlying e=some (.int k)) (hc:P.cellsOf e=1) (w:World) :
    (binOp .eql t (.agg (ints k xs)) (.agg (ints k ys))).run P w=.ok (.bool b) w:=by
  subst h; exact Qjs w ht he hc xs ys hx hy
theorem QaV {P : Program} (t:TypeId) {e:TypeId} {k:IntKind} (xs ys:List Int) {n:Nat} {b:Bool} (h:decide (xs=ys)=b) (hx:xs.length=n) (hy:ys.length=n) (ht:P.underlying t=some (.array n e)) (he:P.underlying e=some (.int k)) (hc:P.cellsOf e=1) (w:World) :
    (binOp .neq t (.agg (ints k xs)) (.agg (ints k ys))).run P w=.ok (.bool (!b)) w:=by
  subst h; exact QiU w ht he hc xs ys hx hy
section
variable {ds : List Deferred} {P : Program} {ops : Array Oper} {Q : Exit → Act → World → Prop} {rest : List Oper} {o : Oper} {N : Nat} {L : Env} {W : World}
end
theorem Qmu (x : Sha.Wd):bits .xor .u32 4294967295 (Sha.wv x)=Sha.wv (~~~x):=by
  have h:=Sha.w_xor (BitVec.allOnes 32) x
  rw [BitVec.allOnes_xor] at h
  exact h
end Go.Proofs.YthfkppjajmjpnaaDoor.Auto
end
section
namespace Go.Proofs.YthfkppjajmjpnaaDoor.Auto
open Go Go.RowKit
open Rely Own
variable {ds : List Deferred}
theorem QbR (nf : Nat) (P:Program):Free Fence.wide nf P:=⟨fun _=>trivial,(fun h=>by cases h),fun h=>callsIn_wide.2 h⟩
section
variable {P : Program} {ops : Array Oper} {Q : Exit → Act → World → Prop} {rest : List Oper} {o : Oper} {N : Nat} {L : Env} {w : World}
theorem Qjj {m l:Nat} {args:Array Value} {A B:World→Prop} (d:Nat) (hd:o.dst=some d) (hnd:QbL o=true) (hg:Qbu ops o N L=some true)
    (h:(execOp (Rely.look (envN N L)) o).run P w=(Instr.yield l args).run P w)
    (hy:YieldAt Fence.wide (m-1) P l args w fun e W'=>(e=.returned (.bool true)∧A W')∨(e=.returned (.bool false)∧B W'))
    (kt:∀ W',A W'→WLI Fence.wide m P ops Q rest (Qa3 ds N ((d,.bool true)::L)) W') (kf:∀ W',B W'→WLI Fence.wide m P ops Q rest (Qa3 ds N ((d,.bool false)::L)) W'):WLI Fence.wide m P ops Q (o::rest) (Qa3 ds N L) w :=
  Qjm (QbR m P) hnd hg fun K hK=>by
    rw [h]
    obtain ⟨fn,tmps,assign,body,h1,h2⟩:=hy
    rw [h1,Oper.uponIn_round]
    refine ⟨(QbR m P).dp,h2.mono ?_⟩
    rintro e W' (⟨rfl,a⟩ | ⟨rfl,b⟩)
    · show K _ _
      rw [hd,Qbb]
      exact hK _ _ (kt _ a)
    · show K _ _
      rw [hd,Qbb]
      exact hK _ _ (kf _ b)
end
theorem Qie {W W':World} (e:Ext W W'):W.grownBy W' none:=⟨e.os,e.tape,e.output,e.size,fun k hk _=>e.block k hk⟩
theorem QeI {β : Type} {B:Nat} {J:β→World→Prop} (hJ:AbidesFrom B J) {s:β} {W W':World} (h:J s W) (e:Ext W W'):J s W':=hJ s W W' none h (Qie e) (fun r q=>by cases q)
def QbA (gs : List Nat) (A B:World):Prop:=A.heap.size≤B.heap.size∧∀ k cs t fr,A.heap[k]? = some (.cells cs t fr)→k∉gs→B.heap[k]? = some (.cells cs t fr)
theorem QbA.refl (gs : List Nat) (A:World):QbA gs A A:=⟨qR _,fun _ _ _ _ h _=>h⟩
theorem QbA.trans {gs : List Nat} {A B C:World} (h:QbA gs A B) (k:QbA gs B C):QbA gs A C:=⟨qT h.1 k.1,fun i cs t fr q n=>k.2 i cs t fr (h.2 i cs t fr q n) n⟩
theorem QbA.ext {gs : List Nat} {A B:World} (e:Ext A B):QbA gs A B:=⟨e.size,fun k cs t fr q _=>(e.block k (Qa5 q)).trans q⟩
theorem QbA.keeps {gs : List Nat} {A B:World} (e:Qa8 gs A B):QbA gs A B:=⟨e.size,fun k cs t fr q n=>(e.block k (Qa5 q) n).trans q⟩
theorem QbA.book {gs : List Nat} {w:World} (W:World) (l:Nat) (o o':Obj) (hl:w.heap.size≤l) (h:W.heap[l]? = some o) (hc:o.isCells=false) (_:o.isWalk=false):QbA gs W (W.putObj l o') :=
  ⟨by simp,fun k cs t fr q _=>(World.putObj_heap_other (fun e=>by subst e; rw [h] at q; cases q; cases hc)).trans q⟩
theorem QbA.row {gs : List Nat} {A B:World} {k:Nat} {cs:Array Value} {t:TypeId} (h:QbA gs A B) (r:A.heap[k]? = some (.cells cs t)) (n:k∉gs):B.heap[k]? = some (.cells cs t):=h.2 k cs t _ r n
theorem QbA.cell {gs : List Nat} {A B:World} {b off:Nat} {v:Value} (h:QbA gs A B) (hc:A.cell? ⟨b,off,none⟩=some v) (n:b∉gs):B.cell? ⟨b,off,none⟩=some v:=by
  unfold World.cell? at hc ⊢
  cases hb:A.heap[b]? with
  | none=>simp [hb] at hc
  | some ob =>
    cases ob with
    | cells cs t fr=>rw [h.2 b cs t fr hb n]; rw [hb] at hc; exact hc
    | _=>simp [hb] at hc
def Grew (w W:World):Prop:=w.heap.size≤W.heap.size
theorem Grew.refl (w : World):Grew w w:=qR _
theorem Grew.size {w W:World} (h:Grew w W):w.heap.size≤W.heap.size:=h
theorem Grew.ext {w W W':World} (h:Grew w W) (e:Ext W W'):Grew w W':=qT h e.size
theorem Grew.puts {w W W':World} {g:Nat} (h:Grew w W) (p:Puts W g W'):Grew w W':=qT h (qE p.2.2.2.1.symm)
theorem Grew.keepC {w W W':World} {gs:List Nat} (h:Grew w W) (p:QbA gs W W'):Grew w W':=qT h p.1
theorem Grew.below {w W:World} {n:Nat} (h:Below n w W):Grew w W:=h.size
end Go.Proofs.YthfkppjajmjpnaaDoor.Auto
end
section
namespace Go.Proofs.YthfkppjajmjpnaaDoor.Auto
open Go Go.RowKit
open Rely Own
variable {ds : List Deferred}
section
variable {P : Program} {R : World → World → Prop} {w0 : World} {N : Nat} {L : Env} {F : List KE → Prop} {o : Oper} {os : List Oper} {s : Srq} {ss : List Srq} {C : List KE}
end
theorem Qhf {P : Program} {Fe:Fence} {nf:Nat} {id:Nat} {Q:Exit→Act→World→Prop} {N:Nat} {L:Env} {w:World} {l:List Oper} (R:World→World→Prop) (hrf:∀ W,R W W) (htr:∀ {a b c:World},R a b→R b c→R a c) (n:Nat) (S:List Srq) (hFr:Free Fe nf P) (hdf:(l.all QbL)=true) (hm:P.follows .mixedOrders=true) (hok:ok l n N S=true)
    (h:∀ F:List KE→Prop,(∀ C,(∀ W,R w.drew W→finE (fun L W=>WLI Fe nf P l.toArray Q (l.drop n) (Qa3 ds N L) W) (l.take n) C L W)→F C)→Qbs P R w.drew N L F (l.take n) S []) :
    (Code.region id l.toArray true).wpIn Fe nf P Q (Qa3 ds N L) w:=by
  refine QdI R n N S hFr.fn hFr.dp hFr.calls hdf hm hok (Qds N L) hrf (fun a b=>htr a b) fun F r0 hr hF=>?_
  rw [QbD] at hr
  subst hr
  have:=h (fun C=>∀ W,R w.drew W→finE (fun L W=>WLI Fe nf P l.toArray Q (l.drop n) (Qa3 ds N L) W) (l.take n) C L W) (fun C h=>h)
  exact Qcp (G:=F) (fun C h=>hF.out fun W hR=>Qjp (Q:=fun a W=>wpListIn Fe nf P l.toArray Q (l.drop n) a W) _ _ _ (Qdn (fun L W h=>h.out) _ _ _ _ (h W hR))) _ _ [] this
def Qe3 (g : Nat) (X Y:Obj) (A B:World):Prop:=ExtB g A B∧(B.heap[g]? = A.heap[g]?∨B.heap[g]? = some Y)
theorem Qin (g : Nat) (A:World):ExtB g A A:=⟨rfl,rfl,rfl,qR _,fun _ _ _=>rfl⟩
theorem Qhg {g : Nat} {A B C:World} (h:ExtB g A B) (k:ExtB g B C):ExtB g A C :=
  ⟨k.1.trans h.1,k.2.1.trans h.2.1,k.2.2.1.trans h.2.2.1,qT h.2.2.2.1 k.2.2.2.1,fun i hi hn=>(k.2.2.2.2 i (qL hi h.2.2.2.1) hn).trans (h.2.2.2.2 i hi hn)⟩
theorem Qe3.refl (g : Nat) (X Y:Obj) (A:World):Qe3 g X Y A A:=⟨Qin g A,.inl rfl⟩
theorem Qe3.trans {g : Nat} {X Y:Obj} {A B C:World} (h:Qe3 g X Y A B) (k:Qe3 g X Y B C):Qe3 g X Y A C :=
  ⟨Qhg h.1 k.1,by
    rcases k.2 with q | q
    · rcases h.2 with r | r
      · exact .inl (q.trans r)
      · exact .inr (q.trans r)
    · exact .inr q⟩
theorem Qe3.row {g : Nat} {X Y:Obj} {A B:World} (h:Qe3 g X Y A B) (hX:A.heap[g]? = some X):B.heap[g]? = some X∨B.heap[g]? = some Y:=by
  rcases h.2 with q | q
  · exact .inl (q.trans hX)
  · exact .inr q
theorem Qe3.stable (g : Nat) (X Y:Obj) (v:Value):Qb6 (Qe3 g X Y) (fun u W=>u=v∧W.heap[g]? = some Y):=fun _ _ _ hR h=>⟨h.1,by
  rcases hR.2 with q | q
  · exact q.trans h.2
  · exact q⟩
theorem RdK.keepC {k : IntKind} {B:Nat} {gs:List Nat} {ys:List Int} {v:Value} {V W:World} (h:RdK k B ys v V) (q:QbA gs V W) (hc:∀ c∈gs,B≤c):RdK k B ys v W:=by
  obtain ⟨a,cap,rfl,h1,h2,h3,h4⟩:=h
  refine ⟨a,cap,rfl,h1,h2,h3,?_⟩
  rcases h4 with h4 | ⟨g,o,e,hB,hl,hcell⟩
  · exact .inl h4
  · exact .inr ⟨g,o,e,hB,qL hl q.1,fun i hi=>q.cell (hcell i hi) (fun hm=>by have:=hc g hm; omega)⟩
theorem OwnN.keepC {k : IntKind} {T:TypeId} {base:Nat} {gs:List Nat} {xs:List Int} {v:Value} {V W:World} (h:OwnN k T base xs v V) (q:QbA gs V W) (hc:∀ c∈gs,c<base):OwnN k T base xs v W:=by
  refine h.keep fun g hg=>?_
  have hge:=h.ge hg
  rcases h.1.2 with ⟨rfl,_⟩ | ⟨g',c,cur,rfl,h2,h3,_⟩
  · cases hg
  · obtain rfl:g'=g:=by simpa [Value.ownBlock] using hg
    rw [h3]
    exact q.2 _ _ _ _ h3 (fun hm=>by have:=hc _ hm; omega)
end Go.Proofs.YthfkppjajmjpnaaDoor.Auto
end
section
namespace Go.Proofs.YthfkppjajmjpnaaDoor.Te
open Go Go.RowKit
open Rely Auto Own Sha
theorem QfT {w : World} {g k:Nat} {v:Value} (h:w.cell? ⟨g,k,none⟩=some v):∃ cs t fr,w.heap[g]? = some (.cells cs t fr):=by
  unfold World.cell? at h
  split at h
  · next c t f e=>exact ⟨c,t,f,e⟩
  · cases h
theorem QfS {P : Program} {ρ:Operand→Value} {o:Oper} {w:World} (t:TypeId) (x y:Operand) (k:IntKind) (n g off len cap:Nat) (e:TypeId) (sz:Nat) (ho:o.op=.indexAddr t x y) (hx:ρ x=.slice (some ⟨g,off,none⟩) len cap) (hy:ρ y=.int k n)
    (hu:P.underlying t=some (.slice e)) (hs:(P.info? e).map (·.size)=some sz) (hn:n<len):(execOp ρ o).run P w=.ok (.value (.pointer (some ⟨g,off+n*sz,none⟩))) w:=by
  cases hq:P.info? e with
  | none=>simp [hq] at hs
  | some i =>
    have hs':i.size=sz:=by simpa [hq] using hs
    have hadd:(⟨g,off,none⟩:Addr).add (n*sz)=⟨g,off+n*sz,none⟩:=by unfold Addr.add; split <;> simp_all
    have h0:(0:Int)≤(n:Int):=by omega
    have h1:(n:Int)<(len:Int):=by omega
    unfold execOp
    simp only [ho,hx,hy]
    simp [Instr.indexAt,asIntOf,run_underlying hu,sizeOf,typeInfo,hq,hs',h0,hn,hadd]
theorem Qap {P : Program} {ρ:Operand→Value} {o:Oper} {w:World} (t:TypeId) (x y:Operand) (k:IntKind) (n g off len cap:Nat) (e:TypeId) (sz:Nat) (ad:Option Addr) (ha:ad=some ⟨g,off,none⟩) (ho:o.op=.indexAddr t x y) (hx:ρ x=.slice ad len cap) (hy:ρ y=.int k n)
    (hu:P.underlying t=some (.slice e)) (hs:(P.info? e).map (·.size)=some sz) (hn:n<len):(execOp ρ o).run P w=.ok (.value (.pointer (some ⟨g,off+n*sz,none⟩))) w:=by
  subst ha
  exact QfS t x y k n g off len cap e sz ho hx hy hu hs hn
structure NdC where
  us:Bool
  nm:Int
  key:List Int
  sg:List Int
  pa:List Int
  ms:List Int
structure NdV where
  n:NdC
  a:Option Addr
  c:Nat
def nd0 : NdV:=⟨⟨false,0,[],[],[],[]⟩,none,0⟩
def ndi (ts : List NdV) (i:Nat):NdV:=ts.getD i nd0
structure NdOk (n : NdC) : Prop where
  kl:n.key.length=32
  gl:n.sg.length=32
  pl:n.pa.length=32
  kb:Qav n.key
  gb:Qav n.sg
  pb:Qav n.pa
def ndP (n : NdV):List (Array Value):=[#[.bool n.n.us],#[.int .i64 n.n.nm],ints .u8 n.n.key,ints .u8 n.n.sg,ints .u8 n.n.pa,#[.slice n.a n.n.ms.length n.c]]
theorem Qcy (n : NdV) (h:NdOk n.n):(cat (ndP n)).size=99:=by
  unfold ndP
  simp only [cat,qS,Qae,h.kl,h.gl,h.pl]
  rfl
structure NdAt (B : Nat) (w : World) (g off : Nat) (n : NdV) : Prop where
  lt:g<B
  lt2:g<w.heap.size
  cell:∀ j u,(cat (ndP n))[j]? = some u→w.cell? ⟨g,off+j,none⟩=some u
  rd:RdK .i64 B n.n.ms (.slice n.a n.n.ms.length n.c) w
  ok:NdOk n.n
theorem NdAt.keep {B g off:Nat} {w W:World} {n:NdV} (h:NdAt B w g off n) (hs:w.heap.size≤W.heap.size) (hk:∀ k,k<B→k<w.heap.size→W.heap[k]? = w.heap[k]?):NdAt B W g off n :=
  ⟨h.lt,qL h.lt2 hs,fun j u hu=>by rw [←h.cell j u hu]; exact World.cell?_of_block (hk g h.lt h.lt2),h.rd.keep hs hk,h.ok⟩
def TrAt (B : Nat) (w:World) (a:Option Addr) (ts:List NdV):Prop:=∃ g o,(0<ts.length→a=some ⟨g,o,none⟩)∧∀ i,i<ts.length→NdAt B w g (o+i*99) (ndi ts i)
theorem TrAt.keep {B : Nat} {w W:World} {a:Option Addr} {ts:List NdV} (h:TrAt B w a ts) (hs:w.heap.size≤W.heap.size) (hk:∀ k,k<B→k<w.heap.size→W.heap[k]? = w.heap[k]?):TrAt B W a ts:=by
  obtain ⟨g,o,h1,h2⟩:=h
  exact ⟨g,o,h1,fun i hi=>(h2 i hi).keep hs hk⟩
theorem TrAt.ext {B : Nat} {w W:World} {a:Option Addr} {ts:List NdV} (h:TrAt B w a ts) (e:Ext w W):TrAt B W a ts:=h.keep e.size fun k _ hl=>e.block k hl
theorem TrAt.here {B : Nat} {w:World} {a:Option Addr} {ts:List NdV} (h:TrAt B w a ts):TrAt w.heap.size w a ts:=by
  obtain ⟨g,o,h1,h2⟩:=h
  exact ⟨g,o,h1,fun i hi=>⟨(h2 i hi).lt2,(h2 i hi).lt2,(h2 i hi).cell,RdK.here (h2 i hi).rd,(h2 i hi).ok⟩⟩
theorem TrAt.more {B B':Nat} {w:World} {a:Option Addr} {ts:List NdV} (h:TrAt B w a ts) (hb:B≤B'):TrAt B' w a ts:=by
  obtain ⟨g,o,h1,h2⟩:=h
  exact ⟨g,o,h1,fun i hi=>⟨qL (h2 i hi).lt hb,(h2 i hi).lt2,(h2 i hi).cell,RdK.more (h2 i hi).rd hb,(h2 i hi).ok⟩⟩
theorem QaH {P : Program} {ρ:Operand→Value} {o:Oper} {w:World} (ty:TypeId) (x:Operand) {B:Nat} (g off:Nat) (n:NdV) (h:NdAt B w g off n)
    (ho:o.op=.load ty x) (hx:ρ x=.pointer (some ⟨g,off,none⟩)) (hu:aggD P ty=some true) (hi:(P.info? ty).map (·.size)=some 99):(execOp ρ o).run P w=.ok (.value (.agg (cat [#[.bool n.n.us],#[.int .i64 n.n.nm],ints .u8 n.n.key,ints .u8 n.n.sg,ints .u8 n.n.pa,#[.slice n.a n.n.ms.length n.c]]))) w:=by
  have h0:(cat (ndP n))[0]? = some (.bool n.n.us):=by
    unfold ndP
    show (#[Value.bool n.n.us]++cat _)[0]? = _
    rw [Array.getElem?_append_left (show 0<1 by decide)]
    rfl
  obtain ⟨cs,t,fr,hg⟩:=QfT (h.cell 0 _ h0)
  refine Qao ty x g off t cs (cat (ndP n)) fr hg ho hx (fun j v hv=>?_) hu (by rw [hi,Qcy n h.ok])
  have h1:=h.cell j v hv
  unfold World.cell? at h1
  simp only [hg] at h1
  rw [←h1]; rfl
end Go.Proofs.YthfkppjajmjpnaaDoor.Te
end
section
namespace Go.Proofs.YthfkppjajmjpnaaDoor.Seat
open Go Go.RowKit
open Rely
def TabAt (w : World):Prop:=1<w.heap.size∧∀ j,j<64→w.cell? ⟨1,j,none⟩=some (.int .u8 (Lib.deBruijn64tab.getD j 0))
theorem TabAt.ext {w w':World} (h:TabAt w) (e:Ext w w'):TabAt w':=⟨qL h.1 e.size,fun j hj=>by rw [e.cell h.1]; exact h.2 j hj⟩
theorem Qht (x k idx:Nat) (w:World) (hx0:((x:Int)==0)=false)
    (key:IntKind.u64.wrap (bits BinOp.and IntKind.u64 (x:Int) (IntKind.u64.wrap (-(x:Int)))*285870213051353865)/288230376151711744=(idx:Int))
    (hi:idx<64) (hk:k<64) (hcell:w.cell? ⟨1,idx,none⟩=some (.int .u8 k)) :
    Calls Tryd.prog 72 #[.int .u64 x] w fun e w'=>e=.returned (.int .i64 k)∧w=w':=by
  go_enter Tryd.func72,Tryd.ntmps72
  go_wp2_with (simp only [key])
  go_ret
  exact ⟨rfl,rfl⟩
theorem Qi9 (x a:Nat) (hx:x<18446744073709551616) (hx0:x≠0) (hlow:x&&&(18446744073709551616-x)=a) :
    IntKind.u64.wrap (bits BinOp.and IntKind.u64 (x:Int) (IntKind.u64.wrap (-(x:Int)))*285870213051353865)/288230376151711744=((a*285870213051353865%18446744073709551616/288230376151711744:Nat):Int):=by
  have e1:IntKind.u64.wrap (-(x:Int))=((18446744073709551616-x:Nat):Int):=by rw [IntKind.wrap_u64]; omega
  rw [e1,bits_and_u64_nat x _ hx (by omega),hlow,IntKind.wrap_u64]
  omega
theorem tz64 (x : Nat) (hx:x<18446744073709551616) (hx0:x≠0) (w:World) (hT:TabAt w) :
    Calls Tryd.prog 72 #[.int .u64 x] w fun e w'=>e=.returned (.int .i64 (Lib.ctz 64 x))∧w=w':=by
  obtain ⟨hlow,hk⟩:=Lib.lowest_bit 64 x hx0 hx
  obtain ⟨hi,htab⟩:=Lib.deBruijn64_at _ hk
  have hcell:=hT.2 _ hi
  rw [htab] at hcell
  exact Qht x _ _ w (by simp; omega) (Qi9 x _ hx hx0 hlow) hi hk hcell
def QaG (n : Int):Bool:=n==1 || n==2 || n==4 || n==8 || n==16 || n==32
def Qa2 (x n:Int):Bool:=QaG n&&decide (0≤x)&&decide (x≤2*n-2)
theorem Qa9 {n : Int} (h:QaG n=true):n=1∨n=2∨n=4∨n=8∨n=16∨n=32:=by
  simp only [QaG,Bool.or_eq_true,beq_iff_eq] at h; omega
theorem QiC (n : Int) (h:n<1∨32<n) (w:World):Calls Tryd.prog 52 #[.int .i64 n] w fun e w'=>e=.returned (.bool (QaG n))∧w=w':=by
  have e:QaG n=false:=by
    rw [Bool.eq_false_iff]; intro h'; have:=Qa9 h'; omega
  rw [e]
  rcases h with h | h
  · have h1:decide (1≤n)=false:=decide_eq_false (by omega)
    go_enter Tryd.func52,Tryd.ntmps52
    go_wp2
    all_goals first | omega | (go_ret; exact ⟨rfl,rfl⟩)
  · have h1:decide (1≤n)=true:=decide_eq_true (by omega)
    have h2:decide (n≤32)=false:=decide_eq_false (by omega)
    go_enter Tryd.func52,Tryd.ntmps52
    go_wp2
    all_goals first | omega | (go_ret; exact ⟨rfl,rfl⟩)
theorem Qlu : ∀ k:Fin 33,(bits .and .i64 (k.val:Int) ((k.val:Int)-1)==0)=(k.val==0 || QaG (k.val:Int)):=by decide +kernel
theorem Qkg (n : Int) (h1:1≤n) (h2:n≤32) (w:World):Calls Tryd.prog 52 #[.int .i64 n] w fun e w'=>e=.returned (.bool (QaG n))∧w=w':=by
  have key:(bits .and .i64 n (n-1)==0)=QaG n:=by
    have:=Qlu ⟨n.toNat,by omega⟩
    have e:((n.toNat:Nat):Int)=n:=by omega
    simp only [e] at this
    rw [this]
    have:(n.toNat==0)=false:=by rw [beq_eq_false_iff_ne]; omega
    rw [this]; rfl
  have h3:decide (1≤n)=true:=decide_eq_true h1
  have h4:decide (n≤32)=true:=decide_eq_true h2
  go_enter Tryd.func52,Tryd.ntmps52
  go_wp2
  all_goals first | omega | (go_ret; exact ⟨rfl,rfl⟩)
theorem tree (n : Int) (w:World):Calls Tryd.prog 52 #[.int .i64 n] w fun e w'=>e=.returned (.bool (QaG n))∧w=w':=by
  by_cases h:1≤n∧n≤32
  · exact Qkg n h.1 h.2 w
  · exact QiC n (by omega) w
def i64 (n : Int):Prop:=-9223372036854775808≤n∧n≤9223372036854775807
theorem node (x n:Int) (w:World):Calls Tryd.prog 74 #[.int .i64 x,.int .i64 n] w fun e w'=>e=.returned (.bool (Qa2 x n))∧w=w':=by
  cases ht:QaG n with
  | false =>
    have e:Qa2 x n=false:=by simp [Qa2,ht]
    rw [e]
    have hn:=tree n w
    rw [ht] at hn
    go_enter Tryd.func74,Tryd.ntmps74
    go_wp2_with (go_at_call 52; refine hn.mono ?_; rintro e w' ⟨rfl,rfl⟩)
    go_ret
    exact ⟨rfl,rfl⟩
  | true =>
    have hn:=tree n w
    rw [ht] at hn
    have hc:=Qa9 ht
    have hb:1≤n∧n≤32:=by omega
    clear hc
    by_cases hx:0≤x
    · have h1:decide (0≤x)=true:=decide_eq_true hx
      by_cases hl:x<2*n-1
      · have e:Qa2 x n=true:=by simp [Qa2,ht]; omega
        rw [e]
        have h2:decide (x<2*n-1)=true:=decide_eq_true hl
        clear ht
        go_enter Tryd.func74,Tryd.ntmps74
        go_wp2_with (go_at_call 52; refine hn.mono ?_; rintro e w' ⟨rfl,rfl⟩)
        go_ret
        exact ⟨rfl,rfl⟩
      · have e:Qa2 x n=false:=by simp [Qa2,ht]; omega
        rw [e]
        have h2:decide (x<2*n-1)=false:=decide_eq_false hl
        clear ht
        go_enter Tryd.func74,Tryd.ntmps74
        go_wp2_with (go_at_call 52; refine hn.mono ?_; rintro e w' ⟨rfl,rfl⟩)
        go_ret
        exact ⟨rfl,rfl⟩
    · have e:Qa2 x n=false:=by simp [Qa2,hx]
      rw [e]
      have h1:decide (0≤x)=false:=decide_eq_false hx
      clear ht
      go_enter Tryd.func74,Tryd.ntmps74
      go_wp2_with (go_at_call 52; refine hn.mono ?_; rintro e w' ⟨rfl,rfl⟩)
      go_ret
      exact ⟨rfl,rfl⟩
def lvN (x : Nat):Nat:=Lib.ctz 64 (18446744073709551615-x)
def lv (x : Int):Int:=if x<0 then -1 else lvN x.toNat
theorem QjH (x : Nat) (h:x≤9223372036854775807):lvN x<64:=(Lib.lowest_bit 64 _ (by omega) (by omega)).2
theorem QkE (n : Nat) (h:n<18446744073709551616):bits .xor .u64 IntKind.u64.max (n:Int)=18446744073709551615-(n:Int):=by
  have e:IntKind.u64.max=((18446744073709551615:Nat):Int):=by decide
  rw [e,u64_xor_nat _ n (by omega) h]
  have e2:(18446744073709551615:Nat)^^^n=18446744073709551615-n:=by
    have:=BitVec.toNat_not (x:=BitVec.ofNat 64 n)
    have h1:(BitVec.allOnes 64^^^BitVec.ofNat 64 n) = ~~~ (BitVec.ofNat 64 n):=BitVec.allOnes_xor
    have h2:=congrArg BitVec.toNat h1
    rw [BitVec.toNat_xor,this,BitVec.toNat_allOnes,BitVec.toNat_ofNat,Nat.mod_eq_of_lt (by omega:n<2^64)] at h2
    exact h2
  rw [e2]
  omega
theorem level (x : Int) (hx:i64 x) (w:World) (hT:TabAt w):Calls Tryd.prog 58 #[.int .i64 x] w fun e w'=>e=.returned (.int .i64 (lv x))∧w=w':=by
  unfold i64 at hx
  by_cases h:x<0
  · have e:lv x=-1:=by simp [lv,h]
    rw [e]
    go_enter Tryd.func58,Tryd.ntmps58
    go_wp2
    go_ret
    exact ⟨rfl,rfl⟩
  · have e:lv x=(lvN x.toNat:Int):=by simp [lv,h]
    rw [e]
    obtain ⟨n,rfl⟩:=Int.eq_ofNat_of_zero_le (by omega:0≤x)
    have hz:=tz64 (18446744073709551615-n) (by omega) (by omega) w hT
    have e2:((18446744073709551615-n:Nat):Int)=18446744073709551615-(n:Int):=by omega
    rw [e2,←QkE n (by omega)] at hz
    rw [Int.toNat_natCast]
    have e3:lvN n=Lib.ctz 64 (18446744073709551615-n):=rfl
    rw [←e3] at hz
    generalize lvN n=c at *
    clear e e2 e3
    go_enter Tryd.func58,Tryd.ntmps58
    go_wp2_with (go_at_call 72; refine hz.mono ?_; rintro e w' ⟨rfl,rfl⟩)
    go_ret
    exact ⟨rfl,rfl⟩
def half (k : Int):Int:=wrap64 (2^(k.toNat-1))
def kidL (x : Int):Int:=if lv x≤0 then -1 else wrap64 (x-half (lv x))
def kidR (x : Int):Int:=if lv x≤0 then -1 else wrap64 (x+half (lv x))
theorem QlV (x : Int) (hx:i64 x):-1≤lv x∧lv x≤63:=by
  unfold lv
  split
  · omega
  · have:=QjH x.toNat (by unfold i64 at hx; omega)
    omega
theorem children (x : Int) (hx:i64 x) (w:World) (hT:TabAt w):Calls Tryd.prog 36 #[.int .i64 x] w fun e w'=>e=.returned (.tuple #[.int .i64 (kidL x),.int .i64 (kidR x)])∧w=w':=by
  have hl:=level x hx w hT
  have hb:=QlV x hx
  by_cases h:lv x≤0
  · have e1:kidL x=-1:=by simp [kidL,h]
    have e2:kidR x=-1:=by simp [kidR,h]
    rw [e1,e2]
    generalize lv x=k at *
    clear e1 e2
    go_enter Tryd.func36,Tryd.ntmps36
    go_wp2_with (go_at_call 58; refine hl.mono ?_; rintro e w' ⟨rfl,rfl⟩)
    go_ret2
    exact ⟨rfl,rfl⟩
  · have e1:kidL x=wrap64 (x-half (lv x)):=by simp [kidL,h]
    have e2:kidR x=wrap64 (x+half (lv x)):=by simp [kidR,h]
    rw [e1,e2]
    generalize lv x=k at *
    clear e1 e2
    go_enter Tryd.func36,Tryd.ntmps36
    go_wp2_with (go_at_call 58; refine hl.mono ?_; rintro e w' ⟨rfl,rfl⟩)
    go_ret2
    exact ⟨rfl,rfl⟩
theorem root (n : Int) (w:World):Calls Tryd.prog 28 #[.int .i64 n] w fun e w'=>e=.returned (.int .i64 (if QaG n then n-1 else -1))∧w=w':=by
  have hn:=tree n w
  cases ht:QaG n with
  | false =>
    rw [ht] at hn
    clear ht
    go_enter Tryd.func28,Tryd.ntmps28
    go_wp2_with (go_at_call 52; refine hn.mono ?_; rintro e w' ⟨rfl,rfl⟩)
    go_ret
    exact ⟨rfl,rfl⟩
  | true =>
    rw [ht] at hn
    have hc:=Qa9 ht
    have hb:1≤n∧n≤32:=by omega
    clear hc ht
    go_enter Tryd.func28,Tryd.ntmps28
    go_wp2_with (go_at_call 52; refine hn.mono ?_; rintro e w' ⟨rfl,rfl⟩)
    go_ret
    exact ⟨rfl,rfl⟩
def up1 (x k:Int):Int:=if bits .and .i64 (x/2^(k+1).toNat) 1==0 then wrap64 (x+wrap64 (2^k.toNat)) else wrap64 (x-wrap64 (2^k.toNat))
def par (x n:Int):Int :=
  if Qa2 x n=false then -1 else if x=n-1 then -1 else up1 x (lv x)
theorem Qfd : ∀ x:Fin 63,lvN x.val≤5:=by decide +kernel
theorem parent (x n:Int) (hx:i64 x) (w:World) (hT:TabAt w):Calls Tryd.prog 81 #[.int .i64 x,.int .i64 n] w fun e w'=>e=.returned (.int .i64 (par x n))∧w=w':=by
  have hn:=node x n w
  cases hd:Qa2 x n with
  | false =>
    have e:par x n=-1:=by simp [par,hd]
    rw [e]
    rw [hd] at hn
    clear hd e
    go_enter Tryd.func81,Tryd.ntmps81
    go_wp2_with (go_at_call 74; refine hn.mono ?_; rintro e w' ⟨rfl,rfl⟩)
    go_ret
    exact ⟨rfl,rfl⟩
  | true =>
    rw [hd] at hn
    have ht:QaG n=true:=by simp [Qa2] at hd; exact hd.1.1
    have hb:0≤x∧x≤2*n-2:=by simp [Qa2] at hd; omega
    have hc:1≤n∧n≤32:=by have:=Qa9 ht; omega
    have hr:=root n w
    rw [ht] at hr
    simp only [if_true] at hr
    by_cases hq:x=n-1
    · have e:par x n=-1:=by simp [par,hq]
      rw [e]
      subst hq
      clear hd ht
      go_enter Tryd.func81,Tryd.ntmps81
      go_wp2_with (first | (go_at_call 74; refine hn.mono ?_; rintro e w' ⟨rfl,rfl⟩) | (go_at_call 28; refine hr.mono ?_; rintro e w' ⟨rfl,rfl⟩))
      go_ret
      exact ⟨rfl,rfl⟩
    · have hl:=level x hx w hT
      have hlv:0≤lv x∧lv x≤5:=by
        have:=Qfd ⟨x.toNat,by omega⟩
        simp only at this
        unfold lv
        rw [if_neg (by omega)]
        omega
      have e:par x n=up1 x (lv x):=by simp [par,hd,hq]
      rw [e]
      have hq':(x==n-1)=false:=by rw [beq_eq_false_iff_ne]; exact hq
      generalize lv x=k at *
      clear hd ht e hq
      cases hbit:(bits .and .i64 (x/2^(k+1).toNat) 1==0) with
      | true =>
        have e:up1 x k=wrap64 (x+wrap64 (2^k.toNat)):=by simp [up1,hbit]
        rw [e]
        clear e
        go_enter Tryd.func81,Tryd.ntmps81
        go_wp2_with (first | (go_at_call 74; refine hn.mono ?_; rintro e w' ⟨rfl,rfl⟩) | (go_at_call 28; refine hr.mono ?_; rintro e w' ⟨rfl,rfl⟩) | (go_at_call 58; refine hl.mono ?_; rintro e w' ⟨rfl,rfl⟩))
        go_ret
        exact ⟨rfl,rfl⟩
      | false =>
        have e:up1 x k=wrap64 (x-wrap64 (2^k.toNat)):=by simp [up1,hbit]
        rw [e]
        clear e
        go_enter Tryd.func81,Tryd.ntmps81
        go_wp2_with (first | (go_at_call 74; refine hn.mono ?_; rintro e w' ⟨rfl,rfl⟩) | (go_at_call 28; refine hr.mono ?_; rintro e w' ⟨rfl,rfl⟩) | (go_at_call 58; refine hl.mono ?_; rintro e w' ⟨rfl,rfl⟩))
        go_ret
        exact ⟨rfl,rfl⟩
def reach (k : Int):Int:=wrap64 (wrap64 (2^k.toNat)-1)
def bel (x n:Int):Int×Int :=
  if Qa2 x n=false then (-1,-1) else (wrap64 ((wrap64 (x-reach (lv x))).tdiv 2),wrap64 ((wrap64 (x+reach (lv x))).tdiv 2))
theorem below (x n:Int) (hx:i64 x) (w:World) (hT:TabAt w):Calls Tryd.prog 60 #[.int .i64 x,.int .i64 n] w fun e w'=>e=.returned (.tuple #[.int .i64 (bel x n).1,.int .i64 (bel x n).2])∧w=w':=by
  have hn:=node x n w
  cases hd:Qa2 x n with
  | false =>
    have e:bel x n=(-1,-1):=by simp [bel,hd]
    rw [e]
    rw [hd] at hn
    clear hd e
    go_enter Tryd.func60,Tryd.ntmps60
    go_wp2_with (go_at_call 74; refine hn.mono ?_; rintro e w' ⟨rfl,rfl⟩)
    go_ret2
    exact ⟨rfl,rfl⟩
  | true =>
    rw [hd] at hn
    have hl:=level x hx w hT
    have hb:0≤x∧x≤62:=by
      simp [Qa2] at hd
      have:=Qa9 hd.1.1
      omega
    have hlv:0≤lv x∧lv x≤5:=by
      have:=Qfd ⟨x.toNat,by omega⟩
      simp only at this
      unfold lv
      rw [if_neg (by omega)]
      omega
    have e:bel x n=(wrap64 ((wrap64 (x-reach (lv x))).tdiv 2),wrap64 ((wrap64 (x+reach (lv x))).tdiv 2)):=by simp [bel,hd]
    rw [e]
    generalize lv x=k at *
    clear hd e
    go_enter Tryd.func60,Tryd.ntmps60
    go_wp2_with (first | (go_at_call 74; refine hn.mono ?_; rintro e w' ⟨rfl,rfl⟩) | (go_at_call 58; refine hl.mono ?_; rintro e w' ⟨rfl,rfl⟩))
    go_ret2
    exact ⟨rfl,rfl⟩
def leaves (m : Int):Int:=if (m.tmod 2 != 1)=true then 0 else if QaG (wrap64 (m.tdiv 2+1)) then wrap64 (m.tdiv 2+1) else 0
theorem QkO (m : Int) (hm:i64 m) (w:World):Calls Tryd.prog 29 #[.int .i64 m] w fun e w'=>e=.returned (.int .i64 (leaves m))∧w=w':=by
  unfold i64 at hm
  have hn:=tree (wrap64 (m.tdiv 2+1)) w
  cases h1:(m.tmod 2 != 1) with
  | true =>
    have e:leaves m=0:=by simp only [leaves,h1,if_true]
    rw [e]
    clear e
    go_enter Tryd.func29,Tryd.ntmps29
    go_wp2
    all_goals first | (go_ret; exact ⟨rfl,rfl⟩) | (exfalso; simp_all; done)
  | false =>
    cases h2:QaG (wrap64 (m.tdiv 2+1)) with
    | true =>
      have e:leaves m=wrap64 (m.tdiv 2+1):=by simp only [leaves,h1,h2,if_true,Bool.false_eq_true,if_false]
      rw [e]
      rw [h2] at hn
      clear e h2
      go_enter Tryd.func29,Tryd.ntmps29
      go_wp2_with (go_at_call 52; refine hn.mono ?_; rintro e w' ⟨rfl,rfl⟩)
      all_goals first | (go_ret; exact ⟨rfl,rfl⟩) | (exfalso; simp_all; done)
    | false =>
      have e:leaves m=0:=by simp only [leaves,h1,h2,Bool.false_eq_true,if_false]
      rw [e]
      rw [h2] at hn
      clear e h2
      go_enter Tryd.func29,Tryd.ntmps29
      go_wp2_with (go_at_call 52; refine hn.mono ?_; rintro e w' ⟨rfl,rfl⟩)
      all_goals first | (go_ret; exact ⟨rfl,rfl⟩) | (exfalso; simp_all; done)
end Go.Proofs.YthfkppjajmjpnaaDoor.Seat
end
section
namespace Go.Proofs.YthfkppjajmjpnaaDoor.Seat
open Go Go.RowKit
open Rely
theorem Qdx : ∀ (a b m n:Nat),2^a*(2*m+1)=2^b*(2*n+1)→a=b
  | 0,0,_,_,_=>rfl
  | 0,b+1,m,n,h=>by
    exfalso
    rw [Nat.pow_succ,Nat.pow_zero,Nat.mul_assoc,Nat.mul_left_comm] at h
    omega
  | a+1,0,m,n,h=>by
    exfalso
    rw [Nat.pow_succ,Nat.pow_zero,Nat.mul_assoc,Nat.mul_left_comm] at h
    omega
  | a+1,b+1,m,n,h=>by
    rw [Nat.pow_succ,Nat.pow_succ,Nat.mul_assoc,Nat.mul_assoc,Nat.mul_left_comm,Nat.mul_left_comm (2^b)] at h
    rw [Qdx a b m n (by omega)]
theorem Qfe (x : Nat) (h:x≤9223372036854775807):∃ m,x+1=2^lvN x*(2*m+1):=by
  have h0:18446744073709551615-x≠0:=by omega
  have e:lvN x=Lib.ctzFrom 64 (18446744073709551615-x):=by unfold lvN Lib.ctz; rw [if_neg h0]
  obtain ⟨m,hm,hk⟩:=Lib.ctzFrom_spec 64 (18446744073709551615-x) (by omega) (by omega)
  rw [←e] at hm hk
  generalize lvN x=k at *
  have hp:(2:Nat)^k*2^(64-k)=18446744073709551616:=by
    rw [←Nat.pow_add,show k+(64-k)=64 from by omega]
  obtain ⟨q,hq⟩:∃ q,2^(64-k)=2*q:=⟨2^(63-k),by rw [show 64-k=(63-k)+1 from by omega,Nat.pow_succ]; omega⟩
  rw [hq] at hp
  generalize 2^k=p at *
  have h1:p*(2*q)=p*(2*m+1)+(x+1):=by omega
  have h2:2*m+1<2*q:=by
    rcases Nat.lt_or_ge (2*m+1) (2*q) with h | h
    · exact h
    · have:=Nat.mul_le_mul_left p h
      omega
  refine ⟨q-m-1,?_⟩
  have h3:2*q=(2*m+1)+(2*(q-m-1)+1):=by omega
  rw [h3,Nat.mul_add] at h1
  omega
theorem QhX (x : Nat) (h:x≤9223372036854775807) (ho:x%2=1):lvN x=lvN (x/2)+1:=by
  obtain ⟨m,hm⟩:=Qfe x h
  obtain ⟨n,hn⟩:=Qfe (x/2) (by omega)
  refine Qdx _ _ m n ?_
  rw [←hm,Nat.pow_succ,Nat.mul_assoc,Nat.mul_left_comm,←hn]
  omega
theorem Qg1 (x : Nat) (h:x≤9223372036854775807) (ho:x%2=0):lvN x=0:=by
  obtain ⟨m,hm⟩:=Qfe x h
  refine Qdx _ 0 m (x/2) ?_
  rw [←hm]
  omega
theorem rlevel (x : Int) (hx:i64 x) (w:World):Calls Tryd.prog 38 #[.int .i64 x] w fun e w'=>e=.returned (.int .i64 (lv x))∧w=w':=by
  unfold i64 at hx
  by_cases h:x<0
  · have e:lv x=-1:=by simp [lv,h]
    rw [e]
    go_enter Tryd.func38,Tryd.ntmps38
    go_wp2
    go_ret
    exact ⟨rfl,rfl⟩
  · have e:lv x=(lvN x.toNat:Int):=by simp [lv,h]
    rw [e]
    obtain ⟨n,rfl⟩:=Int.eq_ofNat_of_zero_le (by omega:0≤x)
    rw [Int.toNat_natCast]
    have hn:n≤9223372036854775807:=by omega
    clear e hx h
    go_enter Tryd.func38,Tryd.ntmps38
    go_wp2
    go_loop [0,3] (fun v k=>∃ m c:Nat,m≤n∧v=.int .i64 m∧k=.int .i64 c∧lvN n=c+lvN m∧c≤64) (fun v _=>(intOf v).toNat)
    case atStart=>exact ⟨n,0,qR _,rfl,rfl,by omega,by omega⟩
    case round =>
      obtain ⟨m,c,hm,rfl,rfl,hk,hc⟩:=hrel
      have hl64:=QjH n hn
      by_cases ho:m%2=1
      · have h1:=QhX m (by omega) ho
        have K:=Lib.hid hk
        have K1:=Lib.hid h1
        clear hk h1
        go_wp2
        go_round
        case rel=>exact ⟨m/2,c+1,by omega,by go_num,by go_num,by have:=K.out; have:=K1.out; omega,by have:=K.out; have:=K1.out; omega⟩
        case measure=>simp [intOf]; omega
      · have h1:=Qg1 m (by omega) (by omega)
        have hk':lvN n=c:=by omega
        have K:=Lib.hid hk'
        clear hk h1 hk' hl64
        go_wp2
        go_ret
        exact ⟨by rw [K.out]; rfl,rfl⟩
theorem Qej (k : Nat) (h:k≤62):(2:Int)^k≤4611686018427387904∧1≤(2:Int)^k:=by
  have h1:(2:Nat)^k≤2^62:=Nat.pow_le_pow_right (by decide) h
  have h2:=Nat.two_pow_pos k
  have e:((2:Int)^k)=((2^k:Nat):Int):=by simp
  rw [e]
  have h3:(2:Nat)^62=4611686018427387904:=rfl
  omega
theorem rchildren (x : Int) (hx:i64 x) (w:World):Calls Tryd.prog 16 #[.int .i64 x] w fun e w'=>e=.returned (.tuple #[.int .i64 (kidL x),.int .i64 (kidR x)])∧w=w':=by
  have hl:=rlevel x hx w
  have hb:=QlV x hx
  by_cases h:lv x≤0
  · have e1:kidL x=-1:=by simp [kidL,h]
    have e2:kidR x=-1:=by simp [kidR,h]
    rw [e1,e2]
    generalize lv x=k at *
    clear e1 e2
    go_enter Tryd.func16,Tryd.ntmps16
    go_wp2_with (go_at_call 38; refine hl.mono ?_; rintro e w' ⟨rfl,rfl⟩)
    go_ret2
    exact ⟨rfl,rfl⟩
  · have e1:kidL x=wrap64 (x-half (lv x)):=by simp [kidL,h]
    have e2:kidR x=wrap64 (x+half (lv x)):=by simp [kidR,h]
    rw [e1,e2]
    generalize lv x=k at *
    have eh:half k=2^(k.toNat-1):=by
      have:=Qej (k.toNat-1) (by omega)
      unfold half
      exact IntWalk.wrap64_in _ (by omega)
    rw [eh]
    clear e1 e2 eh
    go_enter Tryd.func16,Tryd.ntmps16
    go_wp2_with (go_at_call 38; refine hl.mono ?_; rintro e w' ⟨rfl,rfl⟩)
    go_loop [5,6] (fun p i=>∃ c:Nat,c<k.toNat∧p=.int .i64 (2^c)∧i=.int .i64 (c+1)) (fun _ i=>k.toNat-(intOf i).toNat)
    case atStart=>exact ⟨0,by omega,rfl,rfl⟩
    case round =>
      obtain ⟨c,hc,rfl,rfl⟩:=hrel
      by_cases hlt:(c:Int)+1<k
      · have hp:=Qej (c+1) (by omega)
        have e:(2:Int)^(c+1)=2*2^c:=by rw [Int.pow_succ,Int.mul_comm]
        have E:=Lib.hid e
        clear e
        have hq:=Qej c (by omega)
        have hp':2*(2:Int)^c≤4611686018427387904:=by have:=E.out; omega
        clear hp
        go_wp2
        go_round
        case rel=>exact ⟨c+1,by omega,by rw [E.out],by go_num⟩
        case measure=>simp [intOf]; omega
      · have hck:c=k.toNat-1:=by omega
        have K:=Lib.hid hck
        clear hck
        have hd:decide ((c:Int)+1<k)=false:=decide_eq_false hlt
        go_wp2
        all_goals first | omega | (go_ret2; exact ⟨by rw [←K.out]; rfl,rfl⟩)
theorem sound (n : Int) (w:World):Calls Tryd.prog 63 #[.int .i64 n] w fun e w'=>e=.returned (.bool (QaG n))∧w=w':=by
  by_cases h:n=1∨n=2∨n=4∨n=8∨n=16∨n=32
  · have e:QaG n=true:=by simp only [QaG,Bool.or_eq_true,beq_iff_eq]; omega
    rw [e]
    clear e
    rcases h with rfl | rfl | rfl | rfl | rfl | rfl
    all_goals
      go_enter Tryd.func63,Tryd.ntmps63
      go_wp2
      go_ret
      exact ⟨rfl,rfl⟩
  · have e:QaG n=false:=by
      rw [Bool.eq_false_iff]; intro h'; exact h (Qa9 h')
    rw [e]
    have h1:(n==1)=false:=by rw [beq_eq_false_iff_ne]; omega
    have h2:(n==2)=false:=by rw [beq_eq_false_iff_ne]; omega
    have h3:(n==4)=false:=by rw [beq_eq_false_iff_ne]; omega
    have h4:(n==8)=false:=by rw [beq_eq_false_iff_ne]; omega
    have h5:(n==16)=false:=by rw [beq_eq_false_iff_ne]; omega
    have h6:(n==32)=false:=by rw [beq_eq_false_iff_ne]; omega
    clear e h
    go_enter Tryd.func63,Tryd.ntmps63
    go_wp2
    go_ret
    exact ⟨rfl,rfl⟩
theorem rnode (x n:Int) (w:World):Calls Tryd.prog 43 #[.int .i64 x,.int .i64 n] w fun e w'=>e=.returned (.bool (Qa2 x n))∧w=w':=by
  have hn:=sound n w
  cases ht:QaG n with
  | false =>
    have e:Qa2 x n=false:=by simp [Qa2,ht]
    rw [e]
    rw [ht] at hn
    go_enter Tryd.func43,Tryd.ntmps43
    go_wp2_with (go_at_call 63; refine hn.mono ?_; rintro e w' ⟨rfl,rfl⟩)
    go_ret
    exact ⟨rfl,rfl⟩
  | true =>
    rw [ht] at hn
    have hc:=Qa9 ht
    have hb:1≤n∧n≤32:=by omega
    clear hc
    by_cases hx:0≤x
    · have h1:decide (0≤x)=true:=decide_eq_true hx
      by_cases hl:x≤2*n-2
      · have e:Qa2 x n=true:=by simp [Qa2,ht]; omega
        rw [e]
        have h2:decide (x≤2*n-2)=true:=decide_eq_true hl
        clear ht e
        go_enter Tryd.func43,Tryd.ntmps43
        go_wp2_with (go_at_call 63; refine hn.mono ?_; rintro e w' ⟨rfl,rfl⟩)
        go_ret
        exact ⟨rfl,rfl⟩
      · have e:Qa2 x n=false:=by simp [Qa2,ht]; omega
        rw [e]
        have h2:decide (x≤2*n-2)=false:=decide_eq_false hl
        clear ht e
        go_enter Tryd.func43,Tryd.ntmps43
        go_wp2_with (go_at_call 63; refine hn.mono ?_; rintro e w' ⟨rfl,rfl⟩)
        go_ret
        exact ⟨rfl,rfl⟩
    · have e:Qa2 x n=false:=by simp [Qa2,hx]
      rw [e]
      have h1:decide (0≤x)=false:=decide_eq_false hx
      clear ht e
      go_enter Tryd.func43,Tryd.ntmps43
      go_wp2_with (go_at_call 63; refine hn.mono ?_; rintro e w' ⟨rfl,rfl⟩)
      go_ret
      exact ⟨rfl,rfl⟩
def sizes : List Int:=[1,2,4,8,16,32]
theorem QhV {n : Int} (h:QaG n=true):n∈sizes:=by
  have:=Qa9 h
  simp only [sizes,List.mem_cons,List.not_mem_nil,or_false]
  exact this
def Qbp (f : Int→Int→Bool):Bool:=sizes.all fun n=>(List.range (2*n.toNat-1)).all fun x=>f n x
theorem QaJ {f : Int→Int→Bool} (h:Qbp f=true) {x n:Int} (hd:Qa2 x n=true):f n x=true:=by
  simp only [Qa2,Bool.and_eq_true,decide_eq_true_eq] at hd
  obtain ⟨⟨ht,h0⟩,h1⟩:=hd
  have hc:=Qa9 ht
  have h2:=List.all_eq_true.1 (List.all_eq_true.1 h n (QhV ht)) x.toNat (List.mem_range.2 (by omega))
  simpa [Int.toNat_of_nonneg h0] using h2
theorem Qbh {x n:Int} (hd:Qa2 x n=true):0≤x∧x≤62∧x≤2*n-2∧1≤n∧n≤32∧QaG n=true:=by
  simp only [Qa2,Bool.and_eq_true,decide_eq_true_eq] at hd
  obtain ⟨⟨ht,h0⟩,h1⟩:=hd
  have hc:=Qa9 ht
  exact ⟨by omega,by omega,by omega,by omega,by omega,ht⟩
set_option maxRecDepth 100000 in
theorem Qk6 : Qbp (fun n x=>decide (par x n=-1) || (Qa2 (par x n) n&&decide (lv (par x n)=lv x+1)))=true:=by decide +kernel
set_option maxRecDepth 100000 in
theorem Qji : Qbp (fun n x=>(List.range (2*n.toNat-1)).all fun p=>((kidL p==x || kidR p==x)==(par x n==p)))=true:=by decide +kernel
theorem QcR {x n:Int} (hd:Qa2 x n=false):par x n=-1:=by simp [par,hd]
theorem QcH {x n:Int} (hd:Qa2 x n=true):par x n=-1∨(Qa2 (par x n) n=true∧lv (par x n)=lv x+1):=by
  have:=QaJ Qk6 hd
  simpa using this
theorem QjG (x n:Int):-1≤par x n∧par x n≤62:=by
  cases hd:Qa2 x n with
  | false=>rw [QcR hd]; omega
  | true =>
    rcases QcH hd with h | h
    · omega
    · have:=Qbh h.1; omega
theorem Qjh {x n p:Int} (hd:Qa2 x n=true) (h0:0≤p) (h1:p≤2*n-2):(kidL p==x || kidR p==x)=(par x n==p):=by
  have hb:=Qbh hd
  have:=List.all_eq_true.1 (QaJ Qji hd) p.toNat (List.mem_range.2 (by omega))
  simpa [Int.toNat_of_nonneg h0] using this
theorem rparent (x n:Int) (w:World):Calls Tryd.prog 62 #[.int .i64 x,.int .i64 n] w fun e w'=>e=.returned (.int .i64 (par x n))∧w=w':=by
  have hn:=rnode x n w
  cases hd:Qa2 x n with
  | false =>
    rw [QcR hd]
    rw [hd] at hn
    clear hd
    go_enter Tryd.func62,Tryd.ntmps62
    go_wp2_with (go_at_call 43; refine hn.mono ?_; rintro e w' ⟨rfl,rfl⟩)
    go_ret
    exact ⟨rfl,rfl⟩
  | true =>
    rw [hd] at hn
    have hb:=Qbh hd
    have hpb:=QcH hd
    have hk:∀ p,0≤p→p≤2*n-2→(kidL p==x || kidR p==x)=(par x n==p):=fun p h0 h1=>Qjh hd h0 h1
    have hpn:par x n=-1∨par x n≤2*n-2:=by
      rcases hpb with h | h
      · exact .inl h
      · have:=Qbh h.1; omega
    have H:=Lib.hid hk
    have hqb:=(QjG x n).1
    generalize par x n=q at *
    obtain ⟨N,hN⟩:=Int.eq_ofNat_of_zero_le (by omega:0≤n)
    subst hN
    clear hd hk hpb
    go_enter Tryd.func62,Tryd.ntmps62
    go_wp2_with (go_at_call 43; refine hn.mono ?_; rintro e w' ⟨rfl,rfl⟩)
    go_loop [5] (fun p=>∃ c:Nat,c≤2*N-1∧p=.int .i64 c∧(q=-1∨(c:Int)≤q)) (fun p=>2*N-(intOf p).toNat)
    case atStart=>exact ⟨0,by omega,rfl,by omega⟩
    case round =>
      obtain ⟨c,hc,rfl,hq⟩:=hrel
      by_cases hlt:(c:Int)≤2*(N:Int)-2
      · have hm:=H.out c (by omega) hlt
        have hch:=rchildren c (by unfold i64; omega) w
        generalize kidL c=l at *
        generalize kidR c=r at *
        by_cases hqc:q=c
        · subst hqc
          rw [show ((c:Int)==c)=true from beq_self_eq_true _] at hm
          cases hl:(l==x) with
          | true =>
            clear hm
            go_wp2_with (go_at_call 16; refine hch.mono ?_; rintro e w' ⟨rfl,rfl⟩)
            go_ret
            exact ⟨rfl,rfl⟩
          | false =>
            rw [hl,Bool.false_or] at hm
            go_wp2_with (go_at_call 16; refine hch.mono ?_; rintro e w' ⟨rfl,rfl⟩)
            go_ret
            exact ⟨rfl,rfl⟩
        · rw [show (q==(c:Int))=false from beq_eq_false_iff_ne.2 hqc,Bool.or_eq_false_iff] at hm
          obtain ⟨hl,hr⟩:=hm
          go_wp2_with (go_at_call 16; refine hch.mono ?_; rintro e w' ⟨rfl,rfl⟩)
          go_round
          case rel=>exact ⟨c+1,by omega,by go_num,by omega⟩
          case measure=>simp [intOf]; omega
      · have hq':q=-1:=by omega
        have hd:decide ((c:Int)≤2*(N:Int)-2)=false:=decide_eq_false hlt
        have K:=Lib.hid hq'
        clear hq' hq hpn
        go_wp2
        all_goals first | omega | (go_ret; exact ⟨by rw [K.out]; rfl,rfl⟩)
def abvF : Nat→Int→Int→Int→Bool
  | 0,_,_,_=>false
  | f+1,x,p,n=>if p<0 then false else if p=x then true else abvF f x (par p n) n
def abv (x y n:Int):Bool:=Qa2 x n&&Qa2 y n&&abvF 7 x y n
theorem Qen {x n:Int} (hd:Qa2 x n=true):0≤lv x∧lv x≤5:=by
  have hb:=Qbh hd
  have:=Qfd ⟨x.toNat,by omega⟩
  simp only at this
  unfold lv
  rw [if_neg (by omega)]
  omega
def msr (p : Int):Nat:=if p<0 then 0 else 8-(lv p).toNat
theorem QkH {p n:Int} (h:Qa2 p n=true):msr (par p n)<msr p:=by
  have h1:=Qen h
  have h2:=Qbh h
  have e:msr p=8-(lv p).toNat:=by unfold msr; rw [if_neg (by omega)]
  rw [e]
  rcases QcH h with h3 | h3
  · rw [h3]; show 0<_; omega
  · have h4:=Qbh h3.1
    unfold msr
    rw [if_neg (by omega)]
    omega
theorem rabove (x y n:Int) (w:World):Calls Tryd.prog 42 #[.int .i64 x,.int .i64 y,.int .i64 n] w fun e w'=>e=.returned (.bool (abv x y n))∧w=w':=by
  have hn:=rnode x n w
  have hm:=rnode y n w
  cases hx:Qa2 x n with
  | false =>
    have e:abv x y n=false:=by simp [abv,hx]
    rw [e]
    rw [hx] at hn
    clear hx e
    go_enter Tryd.func42,Tryd.ntmps42
    go_wp2_with (go_at_call 43; (with_reducible refine hn.mono ?_); rintro e w' ⟨rfl,rfl⟩)
    go_ret
    exact ⟨rfl,rfl⟩
  | true =>
    cases hy:Qa2 y n with
    | false =>
      have e:abv x y n=false:=by simp [abv,hy]
      rw [e]
      rw [hx] at hn
      rw [hy] at hm
      clear hx hy e
      go_enter Tryd.func42,Tryd.ntmps42
      go_wp2_with (first | (go_at_call 43; (with_reducible refine hn.mono ?_); rintro e w' ⟨rfl,rfl⟩) | (go_at_call 43; (with_reducible refine hm.mono ?_); rintro e w' ⟨rfl,rfl⟩))
      go_ret
      exact ⟨rfl,rfl⟩
    | true =>
      have e:abv x y n=abvF 7 x y n:=by simp [abv,hx,hy]
      rw [e]
      rw [hx] at hn
      rw [hy] at hm
      have hxb:=Qbh hx
      have hyb:=Qbh hy
      have HY:=Lib.hid hy
      clear hx e hy
      go_enter Tryd.func42,Tryd.ntmps42
      go_wp2_with (first | (go_at_call 43; (with_reducible refine hn.mono ?_); rintro e w' ⟨rfl,rfl⟩) | (go_at_call 43; (with_reducible refine hm.mono ?_); rintro e w' ⟨rfl,rfl⟩))
      go_loop [7] (fun v=>∃ (p:Int) (f:Nat),v=.int .i64 p∧Hid (p=-1∨(Qa2 p n=true∧7≤f+lv p))∧Hid (abvF 7 x y n=abvF f x p n)) (fun v=>msr (intOf v))
      case atStart=>exact ⟨y,7,rfl,.inr ⟨HY.out,by have:=Qen HY.out; omega⟩,rfl⟩
      case round =>
        obtain ⟨p,f,rfl,hp,hf⟩:=hrel
        by_cases h0:p<0
        · have hp1:p=-1:=by rcases hp.out with h | h; exact h; have:=Qbh h.1; omega
          subst hp1
          have K:Hid (abvF 7 x y n=false):=by rw [Hid,hf.out]; cases f <;> simp [abvF]
          go_wp2
          go_ret
          exact ⟨by rw [K.out]; rfl,rfl⟩
        · have hpn:Qa2 p n=true∧7≤f+lv p:=by rcases hp.out with h | h; omega; exact h
          have hpb:=Qbh hpn.1
          have hlp:=Qen hpn.1
          obtain ⟨g,rfl⟩:∃ g,f=g+1:=⟨f-1,by omega⟩
          by_cases hpx:p=x
          · have K:Hid (abvF 7 x y n=true):=by rw [Hid,hf.out,hpx]; simp [abvF]; omega
            have hq:(p==x)=true:=beq_iff_eq.2 hpx
            clear hpn hlp hpx
            go_wp2
            go_ret
            exact ⟨by rw [K.out]; rfl,rfl⟩
          · have K:Hid (abvF 7 x y n=abvF g x (par p n) n):=by rw [Hid,hf.out]; simp [abvF,h0,hpx]
            have hq:(p==x)=false:=beq_eq_false_iff_ne.2 hpx
            have hpp:=rparent p n w
            have hnext:Hid (par p n=-1∨(Qa2 (par p n) n=true∧lv (par p n)=lv p+1)):=QcH hpn.1
            have hg:Hid (7≤g+1+lv p):=by have:=hpn.2; rw [Hid]; omega
            have hms:Hid (msr (par p n)<msr p):=QkH hpn.1
            clear hpn hpx
            go_wp2_with (go_at_call 62; refine hpp.mono ?_; rintro e w' ⟨rfl,rfl⟩)
            go_round
            case rel=>exact ⟨par p n,g,rfl,by rcases hnext.out with h | h; exact .inl h; exact .inr ⟨h.1,by have:=h.2; have:=hg.out; omega⟩,K⟩
            case measure=>exact hms.out
end Go.Proofs.YthfkppjajmjpnaaDoor.Seat
end
section
namespace Go.Proofs.YthfkppjajmjpnaaDoor.Seat
open Go Go.RowKit
open Rely
def fl (x n:Int):Nat→Int×Int
  | 0=>(-1,-1)
  | k+1=>if abv x (2*k) n then ((if (fl x n k).1<0 then (k:Int) else (fl x n k).1),(k:Int)) else fl x n k
def QcX (m : Int):Int:=if m=1 then 1 else if m=3 then 2 else if m=7 then 4 else if m=15 then 8 else if m=31 then 16 else if m=63 then 32 else 0
theorem leaves_eq (m : Int) (hm:i64 m):leaves m=QcX m:=by
  unfold i64 at hm
  unfold leaves QcX
  by_cases h0:0≤m
  · rw [Int.tdiv_eq_ediv_of_nonneg h0,Int.tmod_eq_emod_of_nonneg h0]
    have hw:wrap64 (m/2+1)=m/2+1:=IntWalk.wrap64_in _ (by omega)
    rw [hw]
    by_cases h1:m%2=1
    · have e1:(m%2 != 1)=false:=by simp [h1]
      rw [e1]
      simp only [Bool.false_eq_true,if_false]
      cases ht:QaG (m/2+1) with
      | true =>
        have:=Qa9 ht
        simp only [if_true]
        repeat' split
        all_goals omega
      | false =>
        have h2:∀ q:Int,QaG q=true→m/2+1≠q:=fun q hq he=>by rw [he,hq] at ht; cases ht
        have a1:=h2 1 rfl
        have a2:=h2 2 rfl
        have a3:=h2 4 rfl
        have a4:=h2 8 rfl
        have a5:=h2 16 rfl
        have a6:=h2 32 rfl
        simp only [Bool.false_eq_true,if_false]
        repeat' split
        all_goals omega
    · have e1:(m%2 != 1)=true:=by simp [h1]
      rw [e1]
      simp only [if_true]
      repeat' split
      all_goals omega
  · have e:m.tmod 2≠1:=by
      have h1:m.tmod 2=-((-m)%2):=by
        rw [←Int.tmod_eq_emod_of_nonneg (by omega:0≤-m),Int.neg_tmod]; omega
      omega
    have e1:(m.tmod 2 != 1)=true:=by simp [e]
    rw [e1]
    simp only [if_true]
    repeat' split
    all_goals omega
theorem rleaves (m : Int) (w:World):Calls Tryd.prog 25 #[.int .i64 m] w fun e w'=>e=.returned (.int .i64 (QcX m))∧w=w':=by
  by_cases h:m=1∨m=3∨m=7∨m=15∨m=31∨m=63
  · rcases h with rfl | rfl | rfl | rfl | rfl | rfl
    all_goals
      go_enter Tryd.func25,Tryd.ntmps25
      go_wp2
      refine wp_loop_rounds 7 ?_
      repeat (rw [rounds_succ]; go_wp2)
      go_ret
      exact ⟨rfl,rfl⟩
  · have e:QcX m=0:=by
      unfold QcX
      repeat' split
      all_goals omega
    rw [e]
    have h1:(m==1)=false:=by rw [beq_eq_false_iff_ne]; omega
    have h2:(m==3)=false:=by rw [beq_eq_false_iff_ne]; omega
    have h3:(m==7)=false:=by rw [beq_eq_false_iff_ne]; omega
    have h4:(m==15)=false:=by rw [beq_eq_false_iff_ne]; omega
    have h5:(m==31)=false:=by rw [beq_eq_false_iff_ne]; omega
    have h6:(m==63)=false:=by rw [beq_eq_false_iff_ne]; omega
    clear h e
    go_enter Tryd.func25,Tryd.ntmps25
    go_wp2
    refine wp_loop_rounds 7 ?_
    repeat (rw [rounds_succ]; go_wp2)
    go_ret
    exact ⟨rfl,rfl⟩
end Go.Proofs.YthfkppjajmjpnaaDoor.Seat
end
section
namespace Go.Proofs.YthfkppjajmjpnaaDoor.Te
open Go Go.RowKit
open Rely Auto Own Seat Sha
theorem Qkk (nd : NdV) (hok:NdOk nd.n) (w:World)  : Calls Tryd.prog 64 #[.agg (cat [#[.bool false],#[.int .i64 nd.n.nm],ints .u8 (nd.n.key),ints .u8 (nd.n.sg),ints .u8 (nd.n.pa),#[.slice nd.a nd.n.ms.length nd.c]])] w (Ret w (.bool false)):=by
  refine enter 21 [(0,.agg (cat [#[.bool false],#[.int .i64 nd.n.nm],ints .u8 (nd.n.key),ints .u8 (nd.n.sg),ints .u8 (nd.n.pa),#[.slice nd.a nd.n.ms.length nd.c]]))] Tryd.func64 rfl rfl kj rfl ?_
  refine wp_seq_k fun K1 hK1=>?_
  refine Qab ?_
  refine Qan (cat [#[.bool false],#[.int .i64 nd.n.nm],ints .u8 (nd.n.key),ints .u8 (nd.n.sg),ints .u8 (nd.n.pa),#[.slice nd.a nd.n.ms.length nd.c]]) 50 1 rfl kj kj fun g2 W1 l2 e1 r2_1=>?_
  have x1:Ext w W1:=Ext.tr (Rely.Ext.refl w) e1
  have b2:w.heap.size≤g2:=qT (Rely.Ext.refl w).size l2
  refine Qaa (.bool false) 2 rfl kj kj ?_
  refine Qaf ?_
  refine hK1 _ _ ?_
  refine wp_seq_k fun K3 hK3=>?_
  refine Qab ?_
  refine Qaa (.pointer (some ⟨g2,0,none⟩)) 3 rfl kj kj ?_
  refine Qaa (.bool false) 4 rfl kj (Qag 4 _ g2 0 50 _ (.bool false) _ r2_1 rfl kj (Qaj [] [#[.bool false]] [#[.int .i64 nd.n.nm],ints .u8 (nd.n.key),ints .u8 (nd.n.sg),ints .u8 (nd.n.pa),#[.slice nd.a nd.n.ms.length nd.c]] 0 kj 0 _ rfl) kj) ?_
  refine Qaa (.bool false) 5 rfl kj kj ?_
  refine Qad 6 rfl kj ?_
  refine Qad 7 rfl kj ?_
  refine Qad 8 rfl kj ?_
  refine Qad 9 rfl kj ?_
  refine Qaa (.bool false) 10 rfl kj kj ?_
  refine Qaa (.bool false) 11 rfl kj kj ?_
  refine Qad 12 rfl kj ?_
  refine Qad 13 rfl kj ?_
  refine Qad 14 rfl kj ?_
  refine Qaa (.bool false) 15 rfl kj kj ?_
  refine Qaa (.bool false) 16 rfl kj kj ?_
  refine Qad 17 rfl kj ?_
  refine Qad 18 rfl kj ?_
  refine Qad 19 rfl kj ?_
  refine Qaa (.bool false) 20 rfl kj kj ?_
  refine Qaa (.bool false) 2 rfl kj kj ?_
  refine Qaf ?_
  refine hK3 _ _ ?_
  refine wp_ret ?_
  repeat (first | with_reducible refine goR1 ?_ | with_reducible refine goR2 ?_)
  exact (show bodyPost _ _ _ .ret _ _ from ret1 (.bool false) rfl (Qaq kj) ⟨rfl,x1⟩)
theorem Qkl (nd : NdV) (hok:NdOk nd.n) (w:World) (h1:nd.n.ms.length≠0):Calls Tryd.prog 64 #[.agg (cat [#[.bool true],#[.int .i64 nd.n.nm],ints .u8 (nd.n.key),ints .u8 (nd.n.sg),ints .u8 (nd.n.pa),#[.slice nd.a nd.n.ms.length nd.c]])] w (Ret w (.bool false)):=by
  refine enter 21 [(0,.agg (cat [#[.bool true],#[.int .i64 nd.n.nm],ints .u8 (nd.n.key),ints .u8 (nd.n.sg),ints .u8 (nd.n.pa),#[.slice nd.a nd.n.ms.length nd.c]]))] Tryd.func64 rfl rfl kj rfl ?_
  refine wp_seq_k fun K1 hK1=>?_
  refine Qab ?_
  refine Qan (cat [#[.bool true],#[.int .i64 nd.n.nm],ints .u8 (nd.n.key),ints .u8 (nd.n.sg),ints .u8 (nd.n.pa),#[.slice nd.a nd.n.ms.length nd.c]]) 50 1 rfl kj kj fun g2 W1 l2 e1 r2_1=>?_
  have x1:Ext w W1:=Ext.tr (Rely.Ext.refl w) e1
  have b2:w.heap.size≤g2:=qT (Rely.Ext.refl w).size l2
  refine Qaa (.bool false) 2 rfl kj kj ?_
  refine Qaf ?_
  refine hK1 _ _ ?_
  refine wp_seq_k fun K3 hK3=>?_
  refine Qab ?_
  refine Qaa (.pointer (some ⟨g2,0,none⟩)) 3 rfl kj kj ?_
  refine Qaa (.bool true) 4 rfl kj (Qag 4 _ g2 0 50 _ (.bool true) _ r2_1 rfl kj (Qaj [] [#[.bool true]] [#[.int .i64 nd.n.nm],ints .u8 (nd.n.key),ints .u8 (nd.n.sg),ints .u8 (nd.n.pa),#[.slice nd.a nd.n.ms.length nd.c]] 0 kj 0 _ rfl) kj) ?_
  refine Qaa (.bool true) 5 rfl kj kj ?_
  refine Qaa (.pointer (some ⟨g2,98,none⟩)) 6 rfl kj kj ?_
  refine Qaa (.slice nd.a nd.n.ms.length nd.c) 7 rfl kj (Qag 24 _ g2 98 50 _ (.slice nd.a nd.n.ms.length nd.c) _ r2_1 rfl kj (Qaj [#[.bool true],#[.int .i64 nd.n.nm],ints .u8 (nd.n.key),ints .u8 (nd.n.sg),ints .u8 (nd.n.pa)] [#[.slice nd.a nd.n.ms.length nd.c]] [] 98 (by rw [Qac,Qac,Qac,Qac,Qac]; simp only [qS,cat,((Qae _ _).trans hok.gl),((Qae _ _).trans hok.kl),((Qae _ _).trans hok.pl)]; rfl) 0 _ rfl) kj) ?_
  refine Qaa (.int .i64 ((nd.n.ms.length:Nat):Int)) 8 rfl kj kj ?_
  refine Qaa (.bool false) 9 rfl kj (Qai (u:=.bool ((((nd.n.ms.length:Nat):Int)==0))) kj (congrArg Value.bool (beq_eq_false_iff_ne.2 (by omega)))) ?_
  refine Qaa (.bool false) 10 rfl kj kj ?_
  refine Qaa (.bool false) 11 rfl kj kj ?_
  refine Qad 12 rfl kj ?_
  refine Qad 13 rfl kj ?_
  refine Qad 14 rfl kj ?_
  refine Qaa (.bool false) 15 rfl kj kj ?_
  refine Qaa (.bool false) 16 rfl kj kj ?_
  refine Qad 17 rfl kj ?_
  refine Qad 18 rfl kj ?_
  refine Qad 19 rfl kj ?_
  refine Qaa (.bool false) 20 rfl kj kj ?_
  refine Qaa (.bool false) 2 rfl kj kj ?_
  refine Qaf ?_
  refine hK3 _ _ ?_
  refine wp_ret ?_
  repeat (first | with_reducible refine goR1 ?_ | with_reducible refine goR2 ?_)
  exact (show bodyPost _ _ _ .ret _ _ from ret1 (.bool false) rfl (Qaq kj) ⟨rfl,x1⟩)
theorem Qkm (nd : NdV) (hok:NdOk nd.n) (w:World) (h1:nd.n.ms.length=0) (h2:nd.n.nm<0):Calls Tryd.prog 64 #[.agg (cat [#[.bool true],#[.int .i64 nd.n.nm],ints .u8 (nd.n.key),ints .u8 (nd.n.sg),ints .u8 (nd.n.pa),#[.slice nd.a nd.n.ms.length nd.c]])] w (Ret w (.bool false)):=by
  refine enter 21 [(0,.agg (cat [#[.bool true],#[.int .i64 nd.n.nm],ints .u8 (nd.n.key),ints .u8 (nd.n.sg),ints .u8 (nd.n.pa),#[.slice nd.a nd.n.ms.length nd.c]]))] Tryd.func64 rfl rfl kj rfl ?_
  refine wp_seq_k fun K1 hK1=>?_
  refine Qab ?_
  refine Qan (cat [#[.bool true],#[.int .i64 nd.n.nm],ints .u8 (nd.n.key),ints .u8 (nd.n.sg),ints .u8 (nd.n.pa),#[.slice nd.a nd.n.ms.length nd.c]]) 50 1 rfl kj kj fun g2 W1 l2 e1 r2_1=>?_
  have x1:Ext w W1:=Ext.tr (Rely.Ext.refl w) e1
  have b2:w.heap.size≤g2:=qT (Rely.Ext.refl w).size l2
  refine Qaa (.bool false) 2 rfl kj kj ?_
  refine Qaf ?_
  refine hK1 _ _ ?_
  refine wp_seq_k fun K3 hK3=>?_
  refine Qab ?_
  refine Qaa (.pointer (some ⟨g2,0,none⟩)) 3 rfl kj kj ?_
  refine Qaa (.bool true) 4 rfl kj (Qag 4 _ g2 0 50 _ (.bool true) _ r2_1 rfl kj (Qaj [] [#[.bool true]] [#[.int .i64 nd.n.nm],ints .u8 (nd.n.key),ints .u8 (nd.n.sg),ints .u8 (nd.n.pa),#[.slice nd.a nd.n.ms.length nd.c]] 0 kj 0 _ rfl) kj) ?_
  refine Qaa (.bool true) 5 rfl kj kj ?_
  refine Qaa (.pointer (some ⟨g2,98,none⟩)) 6 rfl kj kj ?_
  refine Qaa (.slice nd.a nd.n.ms.length nd.c) 7 rfl kj (Qag 24 _ g2 98 50 _ (.slice nd.a nd.n.ms.length nd.c) _ r2_1 rfl kj (Qaj [#[.bool true],#[.int .i64 nd.n.nm],ints .u8 (nd.n.key),ints .u8 (nd.n.sg),ints .u8 (nd.n.pa)] [#[.slice nd.a nd.n.ms.length nd.c]] [] 98 (by rw [Qac,Qac,Qac,Qac,Qac]; simp only [qS,cat,((Qae _ _).trans hok.gl),((Qae _ _).trans hok.kl),((Qae _ _).trans hok.pl)]; rfl) 0 _ rfl) kj) ?_
  refine Qaa (.int .i64 ((nd.n.ms.length:Nat):Int)) 8 rfl kj kj ?_
  refine Qaa (.bool true) 9 rfl kj (Qai (u:=.bool ((((nd.n.ms.length:Nat):Int)==0))) kj (congrArg Value.bool (beq_iff_eq.2 (by omega)))) ?_
  refine Qaa (.bool true) 10 rfl kj kj ?_
  refine Qaa (.bool true) 11 rfl kj kj ?_
  refine Qaa (.pointer (some ⟨g2,1,none⟩)) 12 rfl kj kj ?_
  refine Qaa (.int .i64 nd.n.nm) 13 rfl kj (Qag 3 _ g2 1 50 _ (.int .i64 nd.n.nm) _ r2_1 rfl kj (Qaj [#[.bool true]] [#[.int .i64 nd.n.nm]] [ints .u8 (nd.n.key),ints .u8 (nd.n.sg),ints .u8 (nd.n.pa),#[.slice nd.a nd.n.ms.length nd.c]] 1 kj 0 _ rfl) kj) ?_
  refine Qaa (.bool false) 14 rfl kj (Qai (u:=.bool (decide (nd.n.nm≥0))) kj (congrArg Value.bool (decide_eq_false (by omega)))) ?_
  refine Qaa (.bool false) 15 rfl kj kj ?_
  refine Qaa (.bool false) 16 rfl kj kj ?_
  refine Qad 17 rfl kj ?_
  refine Qad 18 rfl kj ?_
  refine Qad 19 rfl kj ?_
  refine Qaa (.bool false) 20 rfl kj kj ?_
  refine Qaa (.bool false) 2 rfl kj kj ?_
  refine Qaf ?_
  refine hK3 _ _ ?_
  refine wp_ret ?_
  repeat (first | with_reducible refine goR1 ?_ | with_reducible refine goR2 ?_)
  exact (show bodyPost _ _ _ .ret _ _ from ret1 (.bool false) rfl (Qaq kj) ⟨rfl,x1⟩)
theorem Qkn (nd : NdV) (hok:NdOk nd.n) (w:World) (h1:nd.n.ms.length=0) (h2:0≤nd.n.nm) (h3:255<nd.n.nm):Calls Tryd.prog 64 #[.agg (cat [#[.bool true],#[.int .i64 nd.n.nm],ints .u8 (nd.n.key),ints .u8 (nd.n.sg),ints .u8 (nd.n.pa),#[.slice nd.a nd.n.ms.length nd.c]])] w (Ret w (.bool false)):=by
  refine enter 21 [(0,.agg (cat [#[.bool true],#[.int .i64 nd.n.nm],ints .u8 (nd.n.key),ints .u8 (nd.n.sg),ints .u8 (nd.n.pa),#[.slice nd.a nd.n.ms.length nd.c]]))] Tryd.func64 rfl rfl kj rfl ?_
  refine wp_seq_k fun K1 hK1=>?_
  refine Qab ?_
  refine Qan (cat [#[.bool true],#[.int .i64 nd.n.nm],ints .u8 (nd.n.key),ints .u8 (nd.n.sg),ints .u8 (nd.n.pa),#[.slice nd.a nd.n.ms.length nd.c]]) 50 1 rfl kj kj fun g2 W1 l2 e1 r2_1=>?_
  have x1:Ext w W1:=Ext.tr (Rely.Ext.refl w) e1
  have b2:w.heap.size≤g2:=qT (Rely.Ext.refl w).size l2
  refine Qaa (.bool false) 2 rfl kj kj ?_
  refine Qaf ?_
  refine hK1 _ _ ?_
  refine wp_seq_k fun K3 hK3=>?_
  refine Qab ?_
  refine Qaa (.pointer (some ⟨g2,0,none⟩)) 3 rfl kj kj ?_
  refine Qaa (.bool true) 4 rfl kj (Qag 4 _ g2 0 50 _ (.bool true) _ r2_1 rfl kj (Qaj [] [#[.bool true]] [#[.int .i64 nd.n.nm],ints .u8 (nd.n.key),ints .u8 (nd.n.sg),ints .u8 (nd.n.pa),#[.slice nd.a nd.n.ms.length nd.c]] 0 kj 0 _ rfl) kj) ?_
  refine Qaa (.bool true) 5 rfl kj kj ?_
  refine Qaa (.pointer (some ⟨g2,98,none⟩)) 6 rfl kj kj ?_
  refine Qaa (.slice nd.a nd.n.ms.length nd.c) 7 rfl kj (Qag 24 _ g2 98 50 _ (.slice nd.a nd.n.ms.length nd.c) _ r2_1 rfl kj (Qaj [#[.bool true],#[.int .i64 nd.n.nm],ints .u8 (nd.n.key),ints .u8 (nd.n.sg),ints .u8 (nd.n.pa)] [#[.slice nd.a nd.n.ms.length nd.c]] [] 98 (by rw [Qac,Qac,Qac,Qac,Qac]; simp only [qS,cat,((Qae _ _).trans hok.gl),((Qae _ _).trans hok.kl),((Qae _ _).trans hok.pl)]; rfl) 0 _ rfl) kj) ?_
  refine Qaa (.int .i64 ((nd.n.ms.length:Nat):Int)) 8 rfl kj kj ?_
  refine Qaa (.bool true) 9 rfl kj (Qai (u:=.bool ((((nd.n.ms.length:Nat):Int)==0))) kj (congrArg Value.bool (beq_iff_eq.2 (by omega)))) ?_
  refine Qaa (.bool true) 10 rfl kj kj ?_
  refine Qaa (.bool true) 11 rfl kj kj ?_
  refine Qaa (.pointer (some ⟨g2,1,none⟩)) 12 rfl kj kj ?_
  refine Qaa (.int .i64 nd.n.nm) 13 rfl kj (Qag 3 _ g2 1 50 _ (.int .i64 nd.n.nm) _ r2_1 rfl kj (Qaj [#[.bool true]] [#[.int .i64 nd.n.nm]] [ints .u8 (nd.n.key),ints .u8 (nd.n.sg),ints .u8 (nd.n.pa),#[.slice nd.a nd.n.ms.length nd.c]] 1 kj 0 _ rfl) kj) ?_
  refine Qaa (.bool true) 14 rfl kj (Qai (u:=.bool (decide (nd.n.nm≥0))) kj (congrArg Value.bool (decide_eq_true (by omega)))) ?_
  refine Qaa (.bool true) 15 rfl kj kj ?_
  refine Qaa (.bool true) 16 rfl kj kj ?_
  refine Qaa (.pointer (some ⟨g2,1,none⟩)) 17 rfl kj kj ?_
  refine Qaa (.int .i64 nd.n.nm) 18 rfl kj (Qag 3 _ g2 1 50 _ (.int .i64 nd.n.nm) _ r2_1 rfl kj (Qaj [#[.bool true]] [#[.int .i64 nd.n.nm]] [ints .u8 (nd.n.key),ints .u8 (nd.n.sg),ints .u8 (nd.n.pa),#[.slice nd.a nd.n.ms.length nd.c]] 1 kj 0 _ rfl) kj) ?_
  refine Qaa (.bool false) 19 rfl kj (Qai (u:=.bool (decide (nd.n.nm≤255))) kj (congrArg Value.bool (decide_eq_false (by omega)))) ?_
  refine Qaa (.bool false) 20 rfl kj kj ?_
  refine Qaa (.bool false) 2 rfl kj kj ?_
  refine Qaf ?_
  refine hK3 _ _ ?_
  refine wp_ret ?_
  repeat (first | with_reducible refine goR1 ?_ | with_reducible refine goR2 ?_)
  exact (show bodyPost _ _ _ .ret _ _ from ret1 (.bool false) rfl (Qaq kj) ⟨rfl,x1⟩)
theorem Qkj (nd : NdV) (hok:NdOk nd.n) (w:World) (h1:nd.n.ms.length=0) (h2:0≤nd.n.nm) (h3:nd.n.nm≤255):Calls Tryd.prog 64 #[.agg (cat [#[.bool true],#[.int .i64 nd.n.nm],ints .u8 (nd.n.key),ints .u8 (nd.n.sg),ints .u8 (nd.n.pa),#[.slice nd.a nd.n.ms.length nd.c]])] w (Ret w (.bool true)):=by
  refine enter 21 [(0,.agg (cat [#[.bool true],#[.int .i64 nd.n.nm],ints .u8 (nd.n.key),ints .u8 (nd.n.sg),ints .u8 (nd.n.pa),#[.slice nd.a nd.n.ms.length nd.c]]))] Tryd.func64 rfl rfl kj rfl ?_
  refine wp_seq_k fun K1 hK1=>?_
  refine Qab ?_
  refine Qan (cat [#[.bool true],#[.int .i64 nd.n.nm],ints .u8 (nd.n.key),ints .u8 (nd.n.sg),ints .u8 (nd.n.pa),#[.slice nd.a nd.n.ms.length nd.c]]) 50 1 rfl kj kj fun g2 W1 l2 e1 r2_1=>?_
  have x1:Ext w W1:=Ext.tr (Rely.Ext.refl w) e1
  have b2:w.heap.size≤g2:=qT (Rely.Ext.refl w).size l2
  refine Qaa (.bool false) 2 rfl kj kj ?_
  refine Qaf ?_
  refine hK1 _ _ ?_
  refine wp_seq_k fun K3 hK3=>?_
  refine Qab ?_
  refine Qaa (.pointer (some ⟨g2,0,none⟩)) 3 rfl kj kj ?_
  refine Qaa (.bool true) 4 rfl kj (Qag 4 _ g2 0 50 _ (.bool true) _ r2_1 rfl kj (Qaj [] [#[.bool true]] [#[.int .i64 nd.n.nm],ints .u8 (nd.n.key),ints .u8 (nd.n.sg),ints .u8 (nd.n.pa),#[.slice nd.a nd.n.ms.length nd.c]] 0 kj 0 _ rfl) kj) ?_
  refine Qaa (.bool true) 5 rfl kj kj ?_
  refine Qaa (.pointer (some ⟨g2,98,none⟩)) 6 rfl kj kj ?_
  refine Qaa (.slice nd.a nd.n.ms.length nd.c) 7 rfl kj (Qag 24 _ g2 98 50 _ (.slice nd.a nd.n.ms.length nd.c) _ r2_1 rfl kj (Qaj [#[.bool true],#[.int .i64 nd.n.nm],ints .u8 (nd.n.key),ints .u8 (nd.n.sg),ints .u8 (nd.n.pa)] [#[.slice nd.a nd.n.ms.length nd.c]] [] 98 (by rw [Qac,Qac,Qac,Qac,Qac]; simp only [qS,cat,((Qae _ _).trans hok.gl),((Qae _ _).trans hok.kl),((Qae _ _).trans hok.pl)]; rfl) 0 _ rfl) kj) ?_
  refine Qaa (.int .i64 ((nd.n.ms.length:Nat):Int)) 8 rfl kj kj ?_
  refine Qaa (.bool true) 9 rfl kj (Qai (u:=.bool ((((nd.n.ms.length:Nat):Int)==0))) kj (congrArg Value.bool (beq_iff_eq.2 (by omega)))) ?_
  refine Qaa (.bool true) 10 rfl kj kj ?_
  refine Qaa (.bool true) 11 rfl kj kj ?_
  refine Qaa (.pointer (some ⟨g2,1,none⟩)) 12 rfl kj kj ?_
  refine Qaa (.int .i64 nd.n.nm) 13 rfl kj (Qag 3 _ g2 1 50 _ (.int .i64 nd.n.nm) _ r2_1 rfl kj (Qaj [#[.bool true]] [#[.int .i64 nd.n.nm]] [ints .u8 (nd.n.key),ints .u8 (nd.n.sg),ints .u8 (nd.n.pa),#[.slice nd.a nd.n.ms.length nd.c]] 1 kj 0 _ rfl) kj) ?_
  refine Qaa (.bool true) 14 rfl kj (Qai (u:=.bool (decide (nd.n.nm≥0))) kj (congrArg Value.bool (decide_eq_true (by omega)))) ?_
  refine Qaa (.bool true) 15 rfl kj kj ?_
  refine Qaa (.bool true) 16 rfl kj kj ?_
  refine Qaa (.pointer (some ⟨g2,1,none⟩)) 17 rfl kj kj ?_
  refine Qaa (.int .i64 nd.n.nm) 18 rfl kj (Qag 3 _ g2 1 50 _ (.int .i64 nd.n.nm) _ r2_1 rfl kj (Qaj [#[.bool true]] [#[.int .i64 nd.n.nm]] [ints .u8 (nd.n.key),ints .u8 (nd.n.sg),ints .u8 (nd.n.pa),#[.slice nd.a nd.n.ms.length nd.c]] 1 kj 0 _ rfl) kj) ?_
  refine Qaa (.bool true) 19 rfl kj (Qai (u:=.bool (decide (nd.n.nm≤255))) kj (congrArg Value.bool (decide_eq_true (by omega)))) ?_
  refine Qaa (.bool true) 20 rfl kj kj ?_
  refine Qaa (.bool true) 2 rfl kj kj ?_
  refine Qaf ?_
  refine hK3 _ _ ?_
  refine wp_ret ?_
  repeat (first | with_reducible refine goR1 ?_ | with_reducible refine goR2 ?_)
  exact (show bodyPost _ _ _ .ret _ _ from ret1 (.bool true) rfl (Qaq kj) ⟨rfl,x1⟩)
def QbJ (n : NdC):Bool:=n.us&&n.ms.length==0&&decide (0≤n.nm)&&decide (n.nm≤255)
theorem QlE (nd : NdV) (hok:NdOk nd.n) (w:World):Calls Tryd.prog 64 #[.agg (cat (ndP nd))] w (Ret w (.bool (QbJ nd.n))):=by
  unfold QbJ ndP
  cases hu:nd.n.us with
  | false=>exact Qkk nd hok w
  | true =>
    by_cases h1:nd.n.ms.length=0
    · by_cases h2:nd.n.nm<0
      · rw [show (true&&nd.n.ms.length==0&&decide (0≤nd.n.nm)&&decide (nd.n.nm≤255))=false by rw [h1]; simp; omega]; exact Qkm nd hok w h1 h2
      · by_cases h3:255<nd.n.nm
        · rw [show (true&&nd.n.ms.length==0&&decide (0≤nd.n.nm)&&decide (nd.n.nm≤255))=false by rw [h1]; simp; omega]; exact Qkn nd hok w h1 (by omega) h3
        · rw [show (true&&nd.n.ms.length==0&&decide (0≤nd.n.nm)&&decide (nd.n.nm≤255))=true by rw [h1]; simp; omega]; exact Qkj nd hok w h1 (by omega) (by omega)
    · rw [show (true&&nd.n.ms.length==0&&decide (0≤nd.n.nm)&&decide (nd.n.nm≤255))=false by rw [beq_eq_false_iff_ne.2 h1]; simp]; exact Qkl nd hok w h1
end Go.Proofs.YthfkppjajmjpnaaDoor.Te
end
section
namespace Go.Proofs.YthfkppjajmjpnaaDoor.Auto
open Go Go.RowKit
open Rely Own
section
variable {P : Program} {w : World} {k kn : IntKind} {T : TypeId} {t tn ty : TypeId}
end
end Go.Proofs.YthfkppjajmjpnaaDoor.Auto
end
section
namespace Go.Proofs.YthfkppjajmjpnaaDoor.Sha
open Go Go.RowKit
open Rely Auto Own
theorem QaY {k : IntKind} {B:Nat} {ys:List Int} {a:Option Addr} {n c:Nat} {W:World} (h:RdK k B ys (.slice a n c) W) (h0:0<ys.length):∃ g o,a=some ⟨g,o,none⟩∧g<B∧∀ i,i<ys.length→W.cell? ⟨g,o+i,none⟩=some (.int k (nth ys i)):=by
  obtain ⟨a',cap',e,h2,h3,h4,h5⟩:=h
  simp only [Value.slice.injEq] at e
  obtain ⟨rfl,-,-⟩:=e
  rcases h5 with h5 | ⟨g,o,q1,q2,q3,q4⟩
  · rw [h5] at h0; simp at h0
  · exact ⟨g,o,q1,q2,q4⟩
section
variable {P : Program} {ρ : Operand → Value} {o : Oper} {w : World}
theorem Qa6 (t : TypeId) (x y:Operand) (k:IntKind) (n g off len cap:Nat) (e:TypeId) (a:Option Addr) (z:Int) (ha:a=some ⟨g,off,none⟩) (hz:z=(n:Int)) (ho:o.op=.indexAddr t x y) (hx:ρ x=.slice a len cap) (hy:ρ y=.int k z)
    (hu:P.underlying t=some (.slice e)) (hs:(P.info? e).map (·.size)=some 1) (hn:n<len):(execOp ρ o).run P w=.ok (.value (.pointer (some ⟨g,off+n,none⟩))) w:=by
  subst ha; subst hz
  exact Qdv t x y k n g off len cap e ho hx hy hu hs hn
end
theorem Qgy {v : Value}:∀ c∈([]:List Nat),v.ownBlock≠some c:=fun _ h=>by simp at h
theorem Qfa {v : Value} {g:Nat} {gs:List Nat} (h:v.ownBlock≠some g) (h2:∀ c∈gs,v.ownBlock≠some c):∀ c∈g::gs,v.ownBlock≠some c:=fun c hc=>by
  rcases List.mem_cons.1 hc with e | e
  · rw [e]; exact h
  · exact h2 c e
theorem OwnN.keepsL {k : IntKind} {T:TypeId} {base:Nat} {gs:List Nat} {xs:List Int} {v:Value} {V W:World} (h:OwnN k T base xs v V) (q:Qa8 gs V W) (hn:∀ c∈gs,v.ownBlock≠some c):OwnN k T base xs v W :=
  h.keep fun g hg=>q.block g (h.lt hg) (fun hm=>hn g hm hg)
theorem Qgz {k : IntKind} {T:TypeId} {base g:Nat} {xs:List Int} {v:Value} {W:World} (h:OwnN k T base xs v W) (hg:W.heap.size≤g):v.ownBlock≠some g:=fun e=>by have:=h.lt e; omega
section
variable {ds : List Deferred} {Fe : Fence} {nf : Nat} {P : Program} {ops : Array Oper} {Q : Exit → Act → World → Prop} {rest : List Oper} {o : Oper} {N : Nat} {L : Env} {w : World}
end
section
variable {ds : List Deferred} {P : Program} {ops : Array Oper} {Q : Exit → Act → World → Prop} {rest : List Oper} {o : Oper} {N : Nat} {L : Env} {w : World}
theorem Qh3 (cs : Array Value) (T:TypeId) (m n d:Nat) (hd:o.dst=some d) (hg:Qbu ops o N L=some true) (h:(execOp (Rely.look (envN N L)) o).run P w=.ok (.value (.slice (some ⟨w.heap.size,0,none⟩) m n)) (w.alloc (.cells cs T)))
    (k:∀ (g:Nat) (W:World),w.heap.size≤g→Ext w W→W.heap[g]? = some (.cells cs T)→WL P ops Q rest (Qa3 ds N ((d,.slice (some ⟨g,0,none⟩) m n)::L)) W):WL P ops Q (o::rest) (Qa3 ds N L) w :=
  QbI _ _ d hd hg h (k _ _ (qR _) (Qck _ _) (heap_alloc_new _ _))
end
end Go.Proofs.YthfkppjajmjpnaaDoor.Sha
end
section
namespace Go.Proofs.YthfkppjajmjpnaaDoor.Te
open Go Go.RowKit
open Rely Auto Own Seat Sha
theorem Qd6 {xs ys:List Int} {i:Nat} (h:xs.take i=ys.take i) (e:nth xs i=nth ys i) (hx:i<xs.length) (hy:i<ys.length):xs.take (i+1)=ys.take (i+1):=by
  rw [List.take_add_one,List.take_add_one,h,List.getElem?_eq_getElem hx,List.getElem?_eq_getElem hy]
  simp only [nth,List.getD_eq_getElem?_getD,List.getElem?_eq_getElem hx,List.getElem?_eq_getElem hy,Option.getD_some] at e
  rw [e]
theorem Qjq (xs ys:List Int) (a_x a_y:Option Addr) (c_x c_y B1 B2:Nat) (w:World) (hxl:xs.length≤1000000) (hyl:ys.length≤1000000) (hx:RdK .i64 B1 xs (.slice a_x xs.length c_x) w) (hy:RdK .i64 B2 ys (.slice a_y ys.length c_y) w) (hl:xs.length≠ys.length):Calls Tryd.prog 61 #[.slice a_x xs.length c_x,.slice a_y ys.length c_y] w (Ret w (.bool (decide (xs=ys)))):=by
  refine enter 26 [(0,.slice a_x xs.length c_x),(1,.slice a_y ys.length c_y)] Tryd.func61 rfl rfl kj rfl ?_
  refine wp_seq_k fun K1 hK1=>?_
  refine Qab ?_
  refine Qaa (.bool false) 4 rfl kj kj ?_
  refine Qaf ?_
  refine hK1 _ _ ?_
  refine wp_seq_k fun K2 hK2=>?_
  refine wp_seq_k fun K3 hK3=>?_
  refine Qab ?_
  refine Qaa (.slice a_x xs.length c_x) 6 rfl kj kj ?_
  refine Qaa (.int .i64 ((xs.length:Nat):Int)) 7 rfl kj kj ?_
  refine Qaa (.slice a_y ys.length c_y) 8 rfl kj kj ?_
  refine Qaa (.int .i64 ((ys.length:Nat):Int)) 9 rfl kj kj ?_
  refine Qaa (.bool true) 10 rfl kj (Qai (u:=.bool ((((xs.length:Nat):Int) != ((ys.length:Nat):Int)))) kj (congrArg Value.bool (bne_iff_ne.2 (by omega)))) ?_
  refine Qaf ?_
  refine hK3 _ _ ?_
  refine cond_true kj ?_
  refine wp_seq_k fun K4 hK4=>?_
  refine Qab ?_
  refine Qaa (.bool false) 4 rfl kj kj ?_
  refine Qaf ?_
  refine hK4 _ _ ?_
  refine wp_ret ?_
  repeat (first | with_reducible refine goR1 ?_ | with_reducible refine goR2 ?_)
  exact (show bodyPost _ _ _ .ret _ _ from ret1 (.bool false) rfl (Qaq kj) ⟨congrArg (fun z=>Ending.returned (.bool z)) (decide_eq_false (fun e=>hl (congrArg List.length e))).symm,(Rely.Ext.refl w)⟩)
theorem Qjr (xs ys:List Int) (a_x a_y:Option Addr) (c_x c_y B1 B2:Nat) (w:World) (hxl:xs.length≤1000000) (hyl:ys.length≤1000000) (hx:RdK .i64 B1 xs (.slice a_x xs.length c_x) w) (hy:RdK .i64 B2 ys (.slice a_y ys.length c_y) w) (hl:xs.length=ys.length):Calls Tryd.prog 61 #[.slice a_x xs.length c_x,.slice a_y ys.length c_y] w (Ret w (.bool (decide (xs=ys)))):=by
 refine enter 26 [(0,.slice a_x xs.length c_x),(1,.slice a_y ys.length c_y)] Tryd.func61 rfl rfl kj rfl ?_
 refine wp_seq_k fun K1 hK1=>?_
 refine Qab ?_
 refine Qaa (.bool false) 4 rfl kj kj ?_
 refine Qaf ?_
 refine hK1 _ _ ?_
 refine wp_seq_k fun K2 hK2=>?_
 refine wp_seq_k fun K3 hK3=>?_
 refine Qab ?_
 refine Qaa (.slice a_x xs.length c_x) 6 rfl kj kj ?_
 refine Qaa (.int .i64 ((xs.length:Nat):Int)) 7 rfl kj kj ?_
 refine Qaa (.slice a_y ys.length c_y) 8 rfl kj kj ?_
 refine Qaa (.int .i64 ((ys.length:Nat):Int)) 9 rfl kj kj ?_
 refine Qaa (.bool false) 10 rfl kj (Qai (u:=.bool ((((xs.length:Nat):Int) != ((ys.length:Nat):Int)))) kj (congrArg Value.bool (bne_eq_false_iff_eq.2 (by omega)))) ?_
 refine Qaf ?_
 refine hK3 _ _ ?_
 refine cond_false kj ?_
 refine wp_skip ?_
 refine hK2 _ _ ?_
 refine wp_seq_k fun K4 hK4=>?_
 refine wp_seq_k fun K5 hK5=>?_
 refine Qab ?_
 refine Qaa (.slice a_x xs.length c_x) 11 rfl kj kj ?_
 refine Qaa (.int .i64 ((xs.length:Nat):Int)) 12 rfl kj kj ?_
 refine Qaa (.int .i64 0) 13 rfl kj kj ?_
 refine Qaf ?_
 refine hK5 _ _ ?_
 refine wp_block ?_
 refine Qa0 (fun (s1:Nat)=>[(0,.slice a_x xs.length c_x),(1,.slice a_y ys.length c_y),(12,.int .i64 ((xs.length:Nat):Int)),(13,.int .i64 ((s1:Nat):Int))]) (fun (s1:Nat) W=>(s1≤xs.length)∧(xs.take s1=ys.take s1)∧(Ext w W)∧(Ext w W)) (fun (s1:Nat)=>xs.length-s1) 0 ⟨rfl,rfl,rfl,rfl,trivial⟩ ⟨(Nat.zero_le _),rfl,(Rely.Ext.refl w),(Rely.Ext.refl w)⟩ fun s1 X1 V1 hI1=>?_
 obtain ⟨i,hs1⟩:∃ z,z=s1:=⟨_,rfl⟩
 subst hs1
 obtain ⟨hi,hpre,kk1,xx1⟩:=hI1
 replace hi:i≤xs.length:=hi
 replace hpre:xs.take i=ys.take i:=hpre
 replace kk1:Ext w V1:=kk1
 replace xx1:Ext w V1:=xx1
 have e1:=kk1
 refine wp_seq_k fun K6 hK6=>?_
 refine Qab ?_
 refine Qaa (.bool (decide (((i:Nat):Int)<((xs.length:Nat):Int)))) 14 rfl kj kj ?_
 refine Qaf ?_
 refine hK6 _ _ ?_
 refine wp_seq_k fun K7 hK7=>?_
 refine Qar (t:=decide (((i:Nat):Int)<((xs.length:Nat):Int))) kj (fun c8=>?_) (fun c8=>?_)
 ·skip
  have hlt14:i<xs.length:=by have:=of_decide_eq_true c8; omega
  refine wp_skip ?_
  refine hK7 _ _ ?_
  refine wp_seq_k fun K9 hK9=>?_
  refine wp_block ?_
  refine wp_seq_k fun K10 hK10=>?_
  refine Qab ?_
  refine Qaa (.int .i64 ((i:Nat):Int)) 15 rfl kj kj ?_
  refine Qaa (.int .i64 ((i:Nat):Int)) 5 rfl kj kj ?_
  refine Qaf ?_
  refine hK10 _ _ ?_
  refine wp_seq_k fun K11 hK11=>?_
  have hnx_12:(xs).length=xs.length:=rfl
  obtain ⟨gcx_12,ocx_12,hax_12,hlx_12,hcx_12⟩:=QaY (RdK.here (RdK.ext hx xx1)) (by rw [hnx_12]; omega)
  have hny_13:(ys).length=ys.length:=rfl
  obtain ⟨gcy_13,ocy_13,hay_13,hly_13,hcy_13⟩:=QaY (RdK.here (RdK.ext hy xx1)) (by rw [hny_13]; omega)
  refine QaX 8 [⟨none,[(0,none)]⟩,⟨none,[(5,none)]⟩,⟨none,[(16,some 0),(17,some 1)]⟩,⟨none,[(18,some 2)]⟩,⟨none,[(1,none)]⟩,⟨none,[(5,none)]⟩,⟨none,[(20,some 4),(21,some 5)]⟩,⟨none,[(22,some 6)]⟩] kj kj fun F hF=>?_
  refine Qaz (Qam _) (.slice a_x xs.length c_x) kj kj (fun W=>by kernel_rfl) ?_
  refine Qaz (Qam _) (.int .i64 ((i:Nat):Int)) kj kj (fun W=>by kernel_rfl) ?_
  refine Qaz (Qam _) (.pointer (some ⟨gcx_12,ocx_12+i,none⟩)) kj kj (fun W=>(Qa6 24 _ _ .i64 i gcx_12 ocx_12 xs.length c_x 3 a_x _ hax_12 rfl rfl kj kj kj kj (Nat.lt_of_lt_of_eq (show i<xs.length by omega) hnx_12.symm))) ?_
  refine QaK (Qam _) (.int .i64 (nth (xs) (i))) kj kj (fun W hR=>(Qak 3 _ _ (.int .i64 (nth (xs) (i))) ((Below.cell (Rely.Ext.trans (Qax _) hR) hlx_12).trans (hcx_12 i (Nat.lt_of_lt_of_eq (show i<xs.length by omega) hnx_12.symm))) rfl kj kj)) ?_
  refine Qaz (Qam _) (.slice a_y ys.length c_y) kj kj (fun W=>by kernel_rfl) ?_
  refine Qaz (Qam _) (.int .i64 ((i:Nat):Int)) kj kj (fun W=>by kernel_rfl) ?_
  refine Qaz (Qam _) (.pointer (some ⟨gcy_13,ocy_13+i,none⟩)) kj kj (fun W=>(Qa6 24 _ _ .i64 i gcy_13 ocy_13 ys.length c_y 3 a_y _ hay_13 rfl rfl kj kj kj kj (Nat.lt_of_lt_of_eq (show i<ys.length by omega) hny_13.symm))) ?_
  refine QaK (Qam _) (.int .i64 (nth (ys) (i))) kj kj (fun W hR=>(Qak 3 _ _ (.int .i64 (nth (ys) (i))) ((Below.cell (Rely.Ext.trans (Qax _) hR) hly_13).trans (hcy_13 i (Nat.lt_of_lt_of_eq (show i<ys.length by omega) hny_13.symm))) rfl kj kj)) ?_
  refine QcZ (hF _ fun W2 e2=>?_)
  simp only [List.nil_append,List.cons_append,List.take_succ_cons,List.take_zero,List.drop_succ_cons,List.drop_zero,finE,up]
  clear hF
  have x2:Ext w W2:=Ext.tr xx1 e2
  refine Qaa (.bool (((nth (xs) (i)) != (nth (ys) (i))))) 24 rfl kj kj ?_
  refine Qaf ?_
  refine hK11 _ _ ?_
  refine Qar (t:=((nth (xs) (i)) != (nth (ys) (i)))) kj (fun c14=>?_) (fun c14=>?_)
  ·skip
   have hcn:nth xs i≠nth ys i:=(bne_iff_ne.1 c14)
   refine wp_seq_k fun K15 hK15=>?_
   refine Qab ?_
   refine Qaa (.bool false) 4 rfl kj kj ?_
   refine Qaf ?_
   refine hK15 _ _ ?_
   refine wp_ret ?_
   repeat (first | with_reducible refine goR1 ?_ | with_reducible refine goR2 ?_)
   exact (show bodyPost _ _ _ .ret _ _ from ret1 (.bool false) rfl (Qaq kj) ⟨congrArg (fun z=>Ending.returned (.bool z)) (decide_eq_false (fun e=>hcn (congrArg (fun z=>nth z i) e))).symm,x2⟩)
  ·skip
   have hcn:nth xs i=nth ys i:=(bne_eq_false_iff_eq.1 c14)
   refine wp_skip ?_
   refine hK9 _ _ ?_
   refine Qab ?_
   refine Qaa (.int .i64 ((i+1:Nat):Int)) 25 rfl kj (Qai (u:=.int .i64 (IntKind.i64.wrap (((i:Nat):Int)+1))) kj (congrArg (Value.int .i64) (i64n _ _ (by omega) (by omega)))) ?_
   refine Qaa (.int .i64 ((i+1:Nat):Int)) 13 rfl kj kj ?_
   refine Qaf ?_
   have y0_2:Ext w W2:=(Rely.Ext.trans e1 e2)
   repeat (first | with_reducible refine goX1 ?_ | with_reducible refine goX2 ?_ | with_reducible refine goX3 ?_)
   exact Qat (i+1) ⟨rfl,rfl,rfl,rfl,trivial⟩ ⟨(by omega),(Qd6 hpre hcn (by omega) (by omega)),y0_2,x2⟩ (by show xs.length-(i+1)<xs.length-i; omega)
 ·skip
  have heq14:i=xs.length:=by have:=of_decide_eq_false c8; omega
  have hxy:xs=ys:=by rw [heq14,List.take_length,hl,List.take_length] at hpre; exact hpre
  refine wp_exit ?_
  refine hK4 _ _ ?_
  refine wp_seq_k fun K16 hK16=>?_
  refine Qab ?_
  refine Qaa (.bool true) 4 rfl kj kj ?_
  refine Qaf ?_
  refine hK16 _ _ ?_
  refine wp_ret ?_
  repeat (first | with_reducible refine goR1 ?_ | with_reducible refine goR2 ?_)
  exact (show bodyPost _ _ _ .ret _ _ from ret1 (.bool true) rfl (Qaq kj) ⟨congrArg (fun z=>Ending.returned (.bool z)) (decide_eq_true hxy).symm,xx1⟩)
theorem Qlc (xs ys:List Int) (a_x a_y:Option Addr) (c_x c_y B1 B2:Nat) (w:World) (hxl:xs.length≤1000000) (hyl:ys.length≤1000000) (hx:RdK .i64 B1 xs (.slice a_x xs.length c_x) w) (hy:RdK .i64 B2 ys (.slice a_y ys.length c_y) w):Calls Tryd.prog 61 #[.slice a_x xs.length c_x,.slice a_y ys.length c_y] w (Ret w (.bool (decide (xs=ys)))):=by
  by_cases hl:xs.length=ys.length
  · exact Qjr xs ys a_x a_y c_x c_y B1 B2 w hxl hyl hx hy hl
  · exact Qjq xs ys a_x a_y c_x c_y B1 B2 w hxl hyl hx hy hl
end Go.Proofs.YthfkppjajmjpnaaDoor.Te
end
