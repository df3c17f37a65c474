/- Texts of this claim, joined (M0). -/
import Derived.Still
import Derived.StillTail
import Derived.Tactics
import Derived.Tactics2
import Derived.KernelRfl
import Derived.Below
import Derived.Laws.NewBlocks
import Derived.WalkKit
import Derived.ProofKit
import Derived.OpenShut
import Derived.Handy
import Derived.Laws.BitsAll
import Derived.Laws.BytesArg
import Derived.BigQuiet
import Derived.Lib.Hide
import Derived.Lib.Strings
import Derived.ChangeKeysEq
import Derived.Laws.Rows
import Derived.Laws.Tables
import Derived.RangeFuncNested
import Derived.RangeFuncBound
import Derived.RangeFuncCalls
import Derived.RangeFuncLeaves
import Derived.RangeFuncFrom
import Derived.Shelf.Abstract
import Derived.Shelf.RegionOpen
import Derived.OwnWalkIn
import Derived.TacticsInMore
import Derived.LoopNIn
import Derived.LoopIn
import Derived.MapKept
import Derived.Laws.ResultCell
import Derived.IntWalk
import Derived.Laws.MakeOwn
import Derived.LoopN
import Derived.Great.BuildSlice
import Derived.Maps.AppendAt
import Derived.ArgAppend
import Derived.Test.YtbonglpnkoegoaaGreatDoorProg
import Derived.Laws.CopyRow
import Derived.Laws.IdiomCopy
import Derived.Laws.OwnMore
import Derived.Lib.AppendZeros

set_option linter.unusedVariables false
set_option linter.unusedSimpArgs false
set_option maxHeartbeats 4000000
open List renaming replicate → zaa, foldl_cons → zac, mem_cons_self → zad, mem_cons_of_mem → zae, getElem?_cons_succ → zaf, range → zak, mem_append → zal, mem_singleton → zam, getElem?_cons_zero → zan, all_eq_true → zap, range_succ → zaq, countP_append → zar, mem_range → zas, countP_singleton → zat, mem_of_getElem? → zaz, drop_eq_getElem_cons → za2, getElem?_eq_none → za3, size_toArray → za4, getElem?_eq_some_iff → za7, mem_iff_getElem? → za8, all_cons → za9, getElem?_zipIdx → zaA, getD_eq_getElem?_getD → zaF, getElem?_eq_getElem → zaG, mem_cons → zaL, length_cons → zaQ, getElem?_map → zaX, mem_map → zaZ, map_append → zba, cons_append → zbb, getElem?_append_left → zbg, getElem?_take → zbh, mem_filter → zbi, filter_eq_self → zbj, pairwise_cons → zbk, getElem?_take_of_lt → zbo, length_eq_zero_iff → zbp, length_append → zbq, length_drop → zbr, length_take → zbt
open Go.Region renaming binds → zab, ready → zaj, wanted → zax
open Array renaming getElem?_push → zag, mem_toList_iff → zah, getElem?_eq_none → zai, getElem?_setIfInBounds_self_of_lt → zav, getElem?_setIfInBounds_ne → zay, getElem?_eq_some_iff → za0, ext_getElem? → za6, getD_eq_getD_getElem? → zaB, replicate → zaE, length_toList → zaM, ext → zaN, ofFn → zaT, getElem?_append_right → zbc, getElem?_append_left → zbe, getElem?_modify → zbx
open Nat renaming add_zero → zao, lt_or_ge → zau, strongRecOn → zaw, eq_or_lt_of_le → za1, zero_add → za5, mul_one → zaI, beq → zaR, blt → zaS, eq_of_beq_eq_true → zaU, zero_le → zaV, add_sub_cancel_left → zbd, lt_of_lt_of_eq → zb0
open Option renaming getD_some → zaC, map_some → zaY
open Go.Code renaming region → zaD, cond → zbf
open Go.Value renaming int → zaH, bool → zbz
open Go.Sem renaming run_bind → zaJ, run_pure → zaW
open Go.Result renaming andThen_ok → zaK
open Go.World renaming cell? → zaO, frozen? → zaP, putObj_heap_other → zbl, cell?_of_block → zbn
open Go.IntKind renaming i64 → zbm, u32 → zbu, u64 → zby
open BitVec renaming ofInt → zbs, toNat_ofInt → zbv
open Int renaming natCast_pow → zbw
namespace Go.Proofs.YtbonglpnkoegoaaGreatDoor
section
abbrev pp (g n : Nat) : Value := .pointer (some ⟨g, n, none⟩)
theorem oo {p : Prop} (h : p := by omega) : p := h
theorem dd {p : Prop} (h : p := by decide) : p := h
theorem kk {p : Prop} (h : p := by kernel_rfl) : p := h
theorem qT {n m k : Nat} (h : n ≤ m) (l : m ≤ k) : n ≤ k := Nat.le_trans h l
theorem qL {n m k : Nat} (h : n < m) (l : m ≤ k) : n < k := Nat.lt_of_lt_of_le h l
theorem qE {n m : Nat} (h : n = m) : n ≤ m := Nat.le_of_eq h
theorem qR (n : Nat) : n ≤ n := Nat.le_refl n
theorem qS {α : Type _} {xs ys : Array α} : (xs ++ ys).size = xs.size + ys.size := Array.size_append
theorem qZ {α : Type _} {n : Nat} {a : α} : (zaa n a).length = n := List.length_replicate
abbrev qH : List Int := [1634760805,857760878,2036477234,1797285236]
abbrev qQ : List Int := [0,4,8,12,1,5,9,13,2,6,10,14,3,7,11,15,0,5,10,15,1,6,11,12,2,7,8,13,3,4,9,14]
section
namespace Rely
open Go
theorem kj {p : Prop} (h:p:=by kernel_rfl):p:=h
def Qja (acc : Array Nat) (o:Oper):Nat :=
  o.after.toList.foldl (fun s e=>if zab .any e then s|||2^e.on|||acc.getD e.on 0 else s) 0
def masks : List Oper→Array Nat→Array Nat
  | [],acc=>acc
  | o::l,acc=>masks l (acc.push (Qja acc o))
theorem Qix (acc : Array Nat) (i:Nat):∀ (es:List Edge) (s:Nat),
    (es.foldl (fun s e=>if zab .any e then s|||2^e.on|||acc.getD e.on 0 else s) s).testBit i=true →
    s.testBit i=true∨∃ e∈es,zab .any e=true∧(e.on=i∨(acc.getD e.on 0).testBit i=true)
  | [],s,h=>.inl h
  | e::es,s,h=>by
    rw [zac] at h
    rcases Qix acc i es _ h with h | ⟨e',h1,h2⟩
    · by_cases hb:zab .any e=true
      · rw [if_pos hb,Nat.testBit_or,Nat.testBit_or,Bool.or_eq_true,Bool.or_eq_true] at h
        rcases h with (h | h) | h
        · exact .inl h
        · rw [Nat.testBit_two_pow] at h
          exact .inr ⟨e,zad,hb,.inl (of_decide_eq_true h)⟩
        · exact .inr ⟨e,zad,hb,.inr h⟩
      · rw [if_neg hb] at h
        exact .inl h
    · exact .inr ⟨e',zae _ h1,h2⟩
def Qdb (ops : Array Oper) (listed:Array Bool):Prop :=
  ∀ j o,ops[j]? = some o→listed.getD j false=true→∀ e∈o.after,zab .any e=true→listed.getD e.on false=true
def Anc (ops : Array Oper) (i j:Nat):Prop :=
  ∀ listed,Qdb ops listed→(∀ o,ops[j]? = some o→∀ e∈o.after,zab .any e=true→listed.getD e.on false=true)→listed.getD i false=true
theorem QcD (ops : Array Oper):∀ (l:List Oper) (acc:Array Nat),(∀ j,l[j]? = ops[acc.size+j]?) →
    (∀ j i,(acc.getD j 0).testBit i=true→Anc ops i j)→∀ j i,((masks l acc).getD j 0).testBit i=true→Anc ops i j
  | [],acc,_,h=>h
  | o::l,acc,hl,h=>by
    refine QcD ops l (acc.push (Qja acc o)) (fun j=>?_) (fun j i hj=>?_)
    · have:=hl (j+1)
      simp only [zaf] at this
      rw [this,Array.size_push]
      congr 1
      omega
    · have ho:ops[acc.size]? = some o:=by have:=hl 0; simpa using this.symm
      rcases Nat.lt_trichotomy j acc.size with hlt | heq | hgt
      · refine h j i ?_
        have e:(acc.push (Qja acc o)).getD j 0=acc.getD j 0:=by
          simp [zag,Nat.ne_of_lt hlt]
        rw [←e]; exact hj
      · subst heq
        have e:(acc.push (Qja acc o)).getD acc.size 0=Qja acc o:=by simp
        rw [e] at hj
        rcases Qix acc i _ _ hj with h0 | ⟨ed,hm,hb,hon⟩
        · simp at h0
        · rcases hon with rfl | hon
          · exact fun listed _ hall=>hall o ho _ (zah.1 hm) hb
          · exact fun listed hc hall=>h _ _ hon listed hc fun o' ho' e' he' hb'=>hc _ o' ho' (hall o ho _ (zah.1 hm) hb) e' he' hb'
      · have e:(acc.push (Qja acc o)).getD j 0=0:=by
          simp [zag,Nat.ne_of_gt hgt,zai (Nat.le_of_lt hgt)]
        rw [e] at hj
        simp at hj
theorem Qdb.anc {ops : Array Oper} {listed:Array Bool} (hc:Qdb ops listed) {i j:Nat} (h:Anc ops i j) (hj:listed.getD j false=true):listed.getD i false=true :=
  h listed hc fun o ho e he hb=>hc j o ho hj e he hb
theorem Qbt {ops : Array Oper} {listed:Array Bool} (hc:Qdb ops listed) {i j:Nat} (hj:j∈zaj .any ops listed) (h:Anc ops i j):listed.getD i false=true:=by
  obtain ⟨_,o,ho,hall⟩:=mem_ready.1 hj
  refine h listed hc fun o' ho' e he hb=>?_
  obtain rfl:o=o':=Option.some.inj (ho.symm.trans ho')
  exact hall e he hb
theorem Qdb.set {ops : Array Oper} {listed:Array Bool} (hc:Qdb ops listed) {i:Nat} (hi:i∈zaj .any ops listed):Qdb ops (listed.setIfInBounds i true):=by
  intro j o ho hj e he hb
  obtain ⟨_,oi,hoi,hall⟩:=mem_ready.1 hi
  by_cases hij:i=j
  · subst hij
    obtain rfl:oi=o:=Option.some.inj (hoi.symm.trans ho)
    exact getD_set_true (hall e he hb)
  · rw [getD_set_ne false hij] at hj
    exact getD_set_true (hc j o ho hj e he hb)
abbrev Fact := Value → World → Prop
structure Src where
  guard:Option (Tmp×Bool)
  reads:List (Tmp×Option Nat)
def QcT (ops : Array Oper) (o:Oper):Option (Option (Tmp×Bool)) :=
  match o.guard with
  | none=>some none
  | some (j,b)=>match (ops[j]?).bind (·.dst) with | some d=>some (some (d,b)) | none=>none
def QcW (l : List Oper) (M:Array Nat) (j:Nat):Tmp×Option Nat→Bool
  | (t,some i)=>decide (i<j)&&(M.getD j 0).testBit i&&((l[i]?).bind (·.dst)==some t)
  | (t,none)=>l.zipIdx.all fun (o,i)=>o.dst != some t || (M.getD i 0).testBit j || i==j
def Qhp (l : List Oper) (M:Array Nat) (j:Nat) (o:Oper) (s:Src):Bool :=
  (QcT l.toArray o==some s.guard)&&s.reads.all (QcW l M j)
def QcB (l : List Oper) (M:Array Nat):Nat→List Oper→List Src→Bool
  | j,o::os,s::ss=>Qhp l M j o s&&QcB l M (j+1) os ss
  | _,[],[]=>true
  | _,_,_=>false
def QdA (N : Nat):List Oper→Bool
  | []=>true
  | o::l=>(match o.dst with | some d=>decide (d<N)&&l.all (·.dst != some d) | none=>true)&&QdA N l
def Qdi : Nat→List Oper→Bool
  | _,[]=>true
  | j,o::l=>o.after.toList.all (fun e=>!zab .any e || decide (e.on<j))&&Qdi (j+1) l
def Qj3 (M : Array Nat) (n len:Nat):Bool :=
  (zak len).all fun j=>decide (j<n) || (zak j).all fun i=>(M.getD j 0).testBit i
def ok (l : List Oper) (n N:Nat) (S:List Src):Bool :=
  let M:=masks l #[]
  decide (n≤l.length)&&QcB l M 0 (l.take n) S&&QdA N (l.take n)&&Qdi 0 l&&Qj3 M n l.length &&
  (l.drop n).all (fun o=>match o.dst with | some d=>(l.take n).all (·.dst != some d) | none=>true)
def isB (b : Bool):Value→Bool
  | .bool c=>c==b
  | _=>false
def Qhl (R : World→World→Prop) (W:World) (φ:Fact) (e:Ending) (W':World):Prop:=∃ v,e=.returned v∧R W W'∧φ v W'
def Qca (P : Program) (R:World→World→Prop) (W:World) (φ:Fact):Result Next→Prop
  | .ok (.value v) W'=>R W W'∧φ v W'
  | .ok .skip W'=>R W W'∧φ undef W'
  | .ok (.enter f args) W'=>R W W'∧Calls P f args W' (Qhl R W' φ)
  | _=>False
def look (ρ : Tmp→Value):Operand→Value
  | .tmp t=>ρ t
  | .const v=>v
  | .global g=>.pointer (some ⟨g,0,none⟩)
  | .func f=>.func (.func f) #[] #[]
@[go_sem] theorem Qpd (ρ : Tmp → Value) (t : Tmp) : look ρ (.tmp t) = ρ t := rfl
@[go_sem] theorem QnP (ρ : Tmp → Value) (v : Value) : look ρ (.const v) = v := rfl
@[go_sem] theorem Qnr (ρ : Tmp → Value) (g : Nat) : look ρ (.global g) = .pointer (some ⟨g, 0, none⟩) := rfl
@[go_sem] theorem QoE (ρ : Tmp → Value) (f : FuncId) : look ρ (.func f) = .func (.func f) #[] #[] := rfl
attribute [go_sem] Qca
def slots (a : Act):Tmp→Value:=fun t=>a.tmps.getD t undef
theorem Qec (a : Act):a.eval=look (slots a):=funext fun x=>by cases x <;> rfl
def QcI (P : Program) (R:World→World→Prop) (o:Oper) (ρ:Tmp→Value) (W:World) (φ:Fact):Prop :=
  Qca P R W φ ((execOp (look ρ) o).run P W)
def Qcz (r0 : Tmp→Value) (E:List Fact) (ρ:Tmp→Value) (W:World):List (Tmp×Option Nat)→Prop
  | []=>True
  | (t,none)::r=>ρ t=r0 t∧Qcz r0 E ρ W r
  | (t,some i)::r=>(E.getD i fun _ _=>True) (ρ t) W∧Qcz r0 E ρ W r
def gOk (g : Option (Tmp×Bool)) (ρ:Tmp→Value):Bool :=
  match g with
  | none=>true
  | some (d,b)=>isB b (ρ d)
def guarded (g : Option (Tmp×Bool)) (ρ:Tmp→Value) (p q:Prop):Prop :=
  match g with
  | none=>p
  | some (d,b)=>if isB b (ρ d)=true then p else q
def opOk (P : Program) (R:World→World→Prop) (w0:World) (r0:Tmp→Value) (E:List Fact) (o:Oper) (s:Src) (φ:Fact):Prop :=
  ∀ (ρ:Tmp→Value) (W:World),R w0 W→Qcz r0 E ρ W s.reads→guarded s.guard ρ (QcI P R o ρ W φ) (φ undef W)
def Qb2 (R : World→World→Prop) (φ:Fact):Prop:=∀ v W W',R W W'→φ v W→φ v W'
def fin (Q : Act→World→Prop):List Oper→List Fact→Act→World→Prop
  | o::l,φ::E,a,W=>∀ v,φ v W→fin Q l E (a.put o.dst v) W
  | _,_,a,W=>Q a W
def relies (P : Program) (R:World→World→Prop) (w0:World) (r0:Tmp→Value) (F:List Fact→Prop):List Oper→List Src→List Fact→Prop
  | o::os,s::ss,E=>∃ φ,Qb2 R φ∧opOk P R w0 r0 E o s φ∧relies P R w0 r0 F os ss (E++[φ])
  | _,_,E=>F E
section
variable {P : Program} {R : World → World → Prop} {w0 : World} {r0 : Tmp → Value} {F : List Fact → Prop} {o : Oper} {os : List Oper} {s : Src} {ss : List Src} {E : List Fact}
def Ext (W W':World):Prop:=RowKit.Below W.heap.size W W'
theorem Ext.refl (W : World):Ext W W:=RowKit.Below.refl _ _
def Ret (W : World) (v:Value) (e:Ending) (W':World):Prop:=e=.returned v∧Ext W W'
theorem Ret.const {W W':World} {v:Value} {e:Ending} (h:Ret W v e W'):Qhl Ext W (fun u _=>u=v) e W':=⟨v,h.1,h.2,rfl⟩
def Qby (W : World) (φ:Fact) (e:Ending) (W':World):Prop:=∃ v,e=.returned v∧Ext W W'∧φ v W'
theorem Qby.fact {W W':World} {φ:Fact} {e:Ending} (h:Qby W φ e W'):Qhl Ext W φ e W':=h
theorem Ext.trans {a b c:World} (h:Ext a b) (k:Ext b c):Ext a c:=RowKit.Below.trans h (RowKit.Below.mono k h.size)
end
section
variable {P : Program} {R : World → World → Prop} {w0 : World} {r0 : Tmp → Value}
theorem Qcz.congr {E E':List Fact} {a:Tmp→Value} {W:World} {n:Nat} (hE:∀ i,i<n→E.getD i (fun _ _=>True)=E'.getD i (fun _ _=>True)) :
    ∀ (r:List (Tmp×Option Nat)),(∀ x∈r,∀ i,x.2=some i→i<n)→Qcz r0 E a W r→Qcz r0 E' a W r
  | [],_,_=>trivial
  | (t,none)::r,hr,h=>⟨h.1,Qcz.congr hE r (fun x hx=>hr x (zae _ hx)) h.2⟩
  | (t,some i)::r,hr,h=>by
    refine ⟨?_,Qcz.congr hE r (fun x hx=>hr x (zae _ hx)) h.2⟩
    have h1:=h.1
    rw [hE i (hr (t,some i) zad i rfl)] at h1
    exact h1
theorem QcJ {l : List Oper} {M:Array Nat} {F:List Fact→Prop}:∀ (os:List Oper) (ss:List Src) (E:List Fact),relies P R w0 r0 F os ss E→QcB l M E.length os ss=true→(∀ φ∈E,Qb2 R φ) →
    ∃ E':List Fact,E'.length=E.length+os.length∧(∀ i,i<E.length→E'.getD i (fun _ _=>True)=E.getD i (fun _ _=>True))∧(∀ φ∈E',Qb2 R φ) ∧
      (∀ j o s,os[j]? = some o→ss[j]? = some s→opOk P R w0 r0 E' o s (E'.getD (E.length+j) fun _ _=>True))∧F E'
  | [],[],E,h,_,hs=>⟨E,by simp,fun _ _=>rfl,hs,fun j o s h=>by simp at h,h⟩
  | [],s::ss,E,h,hok,hs=>by simp [QcB] at hok
  | o::os,[],E,h,hok,hs=>by simp [QcB] at hok
  | o::os,s::ss,E,h,hok,hs=>by
    obtain ⟨φ,hst,hop,hrest⟩:=h
    simp only [QcB,Bool.and_eq_true] at hok
    obtain ⟨hok1,hok2⟩:=hok
    have hlen:(E++[φ]).length=E.length+1:=by simp
    obtain ⟨E',hl,hE,hS,hO,hF⟩:=QcJ os ss (E++[φ]) hrest (by rw [hlen]; exact hok2) (fun ψ hψ=>by
      rcases zal.1 hψ with h | h
      · exact hs ψ h
      · rw [zam.1 h]; exact hst)
    have hE1:∀ i,i<E.length→E'.getD i (fun _ _=>True)=E.getD i (fun _ _=>True):=fun i hi=>by
      rw [hE i oo]
      simp [List.getElem?_append,hi]
    refine ⟨E',by simp at hl ⊢; omega,hE1,hS,fun j oj sj hj hsj=>?_,hF⟩
    cases j with
    | zero =>
      simp only [zan,Option.some.injEq] at hj hsj
      subst hj; subst hsj
      have hφ:E'.getD E.length (fun _ _=>True)=φ:=by
        rw [hE E.length oo]; simp
      rw [zao,hφ]
      intro a W hR hh
      refine hop a W hR (Qcz.congr hE1 _ (fun x hx i hi=>?_) hh)
      simp only [Qhp,Bool.and_eq_true] at hok1
      have:=zap.1 hok1.2 x hx
      obtain ⟨t,si⟩:=x
      simp only at hi
      subst hi
      simp only [QcW,Bool.and_eq_true,decide_eq_true_eq] at this
      exact this.1.1
    | succ j =>
      have:=hO j oj sj (by simpa using hj) (by simpa using hsj)
      rw [hlen,show E.length+1+j=E.length+(j+1) by omega] at this
      exact this
variable {a0 : Act}
structure Inv (R : World → World → Prop) (w0 : World) (a0 : Act) (ops : Array Oper) (E : List Fact) (n : Nat) (listed : Array Bool) (a : Act) (W : World) (vs : Nat → Value) : Prop where
  size:listed.size=ops.size
  closed:Qdb ops listed
  rel:R w0 W
  defers:a.defers=a0.defers
  asize:a.tmps.size=a0.tmps.size
  facts:∀ i,listed.getD i false=true→i<n→(E.getD i fun _ _=>True) (vs i) W
  vals:∀ i o d,listed.getD i false=true→i<n→ops[i]? = some o→o.dst=some d→a.tmps[d]? = some (vs i)
  rest:∀ t,(∀ i o,listed.getD i false=true→i<n→ops[i]? = some o→o.dst≠some t)→a.tmps[t]? = a0.tmps[t]?
  tail:∀ i,n≤i→listed.getD i false=false
def left (ops : Array Oper) (listed:Array Bool):Nat:=(zak ops.size).countP fun i=>!listed.getD i true
theorem Qdo (p q:Nat→Bool) (i:Nat) (hp:p i=true) (hq:q i=false) (he:∀ j,j≠i→p j=q j):∀ n,i<n→(zak n).countP p=(zak n).countP q+1
  | 0,h=>absurd h (Nat.not_lt_zero _)
  | n+1,h=>by
    rw [zaq,zar,zar]
    by_cases hin:i=n
    · subst hin
      have:(zak i).countP p=(zak i).countP q:=List.countP_congr fun x hx=>by
        rw [he x (by have:=zas.1 hx; omega)]
      rw [this]
      simp [hp,hq]
    · have:=Qdo p q i hp hq he n oo
      rw [this]
      simp only [zat,he n (fun h=>hin h.symm)]
      omega
theorem Qd4 {ops : Array Oper} {listed:Array Bool} {i:Nat} (hi:listed.getD i true=false) (hs:listed.size=ops.size):left ops listed=left ops (listed.setIfInBounds i true)+1:=by
  have hlt:i<listed.size:=by
    rcases zau i listed.size with h | h
    · exact h
    · simp [zai h] at hi
  refine Qdo _ _ i (by simp only [hi,Bool.not_false]) ?_ (fun j hj=>?_) _ oo
  · simp [zav hlt]
  · rw [getD_set_ne true (Ne.symm hj)]
theorem QlS {l : List Oper}:∀ (k:Nat),Qdi k l=true→∀ j o e,l[j]? = some o→e∈o.after→zab .any e=true→e.on<k+j:=by
  induction l with
  | nil=>intro k _ j o e h; simp at h
  | cons x l ih =>
    intro k h j o e hj he hb
    simp only [Qdi,Bool.and_eq_true] at h
    cases j with
    | zero =>
      simp only [zan,Option.some.injEq] at hj
      subst hj
      have:=zap.1 h.1 e (zah.2 he)
      simpa [hb] using this
    | succ j =>
      have:=ih (k+1) h.2 j o e (by simpa using hj) he hb
      omega
theorem QbT {l : List Oper} (he:Qdi 0 l=true) {listed:Array Bool}:∀ i,i<l.length→listed.getD i true=false→∃ j,j∈zaj .any l.toArray listed:=by
  intro i
  induction i using zaw with
  | _ i ih =>
    intro hi hun
    by_cases h:∃ k,k<i∧listed.getD k true=false
    · obtain ⟨k,hk,hk2⟩:=h
      exact ih k hk oo hk2
    · refine ⟨i,mem_ready.2 ⟨hun,l[i],by simp [hi],fun e hm hb=>?_⟩⟩
      have hlt:=QlS 0 he i l[i] e (by simp [hi]) hm hb
      cases hx:listed.getD e.on false with
      | true=>rfl
      | false =>
        exfalso
        refine h ⟨e.on,by omega,?_⟩
        have hil:i<listed.size:=by
          rcases zau i listed.size with h | h
          · exact h
          · simp [zai h] at hun
        exact getD_in oo hx
theorem QeM {ops : Array Oper} {listed:Array Bool} {i:Nat} (hi:i<ops.size) (h:listed.getD i true=false):0<left ops listed :=
  List.countP_pos_iff.2 ⟨i,zas.2 hi,by simp only [h,Bool.not_false]⟩
theorem QbX {ops : Array Oper} {Q:Exit→Act→World→Prop} {i:Nat} {o:Oper} {K:Act→World→Prop} {a:Act} {w:World} (ho:ops[i]? = some o)
    (h:if zax o (yielded ops a.tmps) then o.wp P a w K Q else K (a.put o.dst undef) w):wpOp P ops Q i K a w:=by
  unfold wpOp
  rw [ho]
  simp only
  split at h
  · rename_i hw; rw [if_pos hw]; exact .inl h
  · rename_i hw; rw [if_neg hw]; exact h
theorem Qfe {o : Oper} {a:Act} {W:World} {φ:Fact} {K:Act→World→Prop} {Q:Exit→Act→World→Prop} (htr:∀ {a b c:World},R a b→R b c→R a c) (h:QcI P R o (slots a) W φ)
    (hk:∀ v W',R W W'→φ v W'→K (a.put o.dst v) W'):o.wp P a W K Q:=by
  unfold QcI at h
  rw [←Qec] at h
  unfold Oper.wp
  generalize (execOp a.eval o).run P W=r at *
  cases r with
  | halt x w=>exact h.elim
  | ok n W1 =>
    cases n <;> simp only [Qca] at h <;> try exact h.elim
    case value v=>exact hk v W1 h.1 h.2
    case skip=>exact hk undef W1 h.1 h.2
    case enter f args =>
      obtain ⟨h1,h2⟩:=h
      refine Calls.mono h2 fun e W2 ⟨v,he,hr,hp⟩=>?_
      subst he
      exact hk v W2 (htr h1 hr) hp
theorem QbQ {ops : Array Oper} {o:Oper} {a:Act} {g:Option (Tmp×Bool)} (hg:QcT ops o=some g) :
    zax o (yielded ops a.tmps)=gOk g (slots a):=by
  unfold gOk
  unfold QcT at hg
  unfold zax
  cases hgo:o.guard with
  | none =>
    simp only [hgo,Option.some.injEq] at hg
    subst hg; rfl
  | some jb =>
    obtain ⟨j,b⟩:=jb
    simp only [hgo] at hg
    cases hd:(ops[j]?).bind (·.dst) with
    | none=>simp only [hd] at hg; cases hg
    | some d =>
      simp only [hd,Option.some.injEq] at hg
      subst hg
      simp only [yielded,hd,Option.bind_some,slots]
      cases ht:a.tmps[d]? with
      | none=>simp [ht,undef,isB]
      | some v =>
        cases v <;> simp [ht,isB]
end
def QaW : List Oper→(Nat→Value)→Nat→Act→Act
  | [],_,_,a=>a
  | o::os,vs,k,a=>QaW os vs (k+1) (a.put o.dst (vs k))
theorem Qdd (a : Act) (d:Option Tmp) (v:Value):(a.put d v).tmps.size=a.tmps.size:=by cases d <;> simp [Act.put]
theorem put_defers (a : Act) (d:Option Tmp) (v:Value):(a.put d v).defers=a.defers:=by cases d <;> rfl
theorem QbB (a : Act) (d:Option Tmp) (v:Value) (t:Nat) (h:d≠some t):(a.put d v).tmps[t]? = a.tmps[t]?:=by
  cases d with
  | none=>rfl
  | some d=>simp only [Act.put]; rw [zay (fun e=>h (by rw [e]))]
theorem Qc9 (a : Act) (t:Nat) (v:Value) (h:t<a.tmps.size):(a.put (some t) v).tmps[t]? = some v:=by
  simp only [Act.put]; rw [zav h]
theorem Qck : ∀ (os:List Oper) (vs:Nat→Value) (k:Nat) (a:Act),(QaW os vs k a).tmps.size=a.tmps.size∧(QaW os vs k a).defers=a.defers
  | [],_,_,_=>⟨rfl,rfl⟩
  | o::os,vs,k,a=>by
    have:=Qck os vs (k+1) (a.put o.dst (vs k))
    exact ⟨this.1.trans (Qdd _ _ _),this.2.trans (put_defers _ _ _)⟩
theorem QbI : ∀ (os:List Oper) (vs:Nat→Value) (k:Nat) (a:Act) (t:Nat),(∀ o∈os,o.dst≠some t)→(QaW os vs k a).tmps[t]? = a.tmps[t]?
  | [],_,_,_,_,_=>rfl
  | o::os,vs,k,a,t,h=>by
    show (QaW os vs (k+1) (a.put o.dst (vs k))).tmps[t]? = _
    rw [QbI os vs (k+1) _ t (fun o' ho'=>h o' (zae _ ho')),QbB _ _ _ _ (h o zad)]
theorem QbV {N : Nat}:∀ (os:List Oper) (vs:Nat→Value) (k:Nat) (a:Act) (t i:Nat) (o:Oper),QdA N os=true→a.tmps.size=N→os[i]? = some o→o.dst=some t→(QaW os vs k a).tmps[t]? = some (vs (k+i))
  | [],_,_,_,_,_,_,_,_,h,_=>by simp at h
  | x::os,vs,k,a,t,i,o,hd,hN,hi,ho=>by
    simp only [QdA,Bool.and_eq_true] at hd
    show (QaW os vs (k+1) (a.put x.dst (vs k))).tmps[t]? = _
    cases i with
    | zero =>
      simp only [zan,Option.some.injEq] at hi
      subst hi
      have h1:=hd.1
      rw [ho] at h1
      simp only [Bool.and_eq_true,decide_eq_true_eq] at h1
      have hlt0:t<N:=h1.1
      have hlt:t<a.tmps.size:=by omega
      rw [QbI os vs (k+1) _ t (fun o' ho' he=>by
        have:=zap.1 h1.2 o' ho'
        rw [he] at this
        simp at this),ho,Qc9 _ _ _ hlt]
      rfl
    | succ i =>
      have:=QbV os vs (k+1) (a.put x.dst (vs k)) t i o hd.2 (by rw [Qdd]; exact hN) (by simpa using hi) ho
      rw [this]
      congr 2
      omega
theorem Qgt {Q : Act→World→Prop} {W:World}:∀ (os:List Oper) (E:List Fact) (a:Act) (vs:Nat→Value) (k:Nat),fin Q os E a W→E.length=os.length →
    (∀ i,i<os.length→(E.getD i fun _ _=>True) (vs (k+i)) W)→Q (QaW os vs k a) W
  | [],[],a,vs,k,h,_,_=>h
  | [],_::_,_,_,_,_,hl,_=>by simp at hl
  | _::_,[],_,_,_,_,hl,_=>by simp at hl
  | o::os,φ::E,a,vs,k,h,hl,hf=>by
    have h0:=hf 0 (by simp)
    refine Qgt os E (a.put o.dst (vs k)) vs (k+1) (h (vs k) (by simpa using h0)) (by simpa using hl) (fun i hi=>?_)
    have:=hf (i+1) (by simpa using hi)
    rw [show k+(i+1)=k+1+i by omega] at this
    simpa using this
theorem Qew {N : Nat}:∀ (os:List Oper),QdA N os=true→∀ (i j:Nat) (x y:Oper) (d:Nat),os[i]? = some x→os[j]? = some y→i≠j→x.dst=some d→y.dst≠some d
  | [],_,_,_,_,_,_,h,_,_,_=>by simp at h
  | z::os,hd,i,j,x,y,d,hx,hy,hne,hxd=>by
    simp only [QdA,Bool.and_eq_true] at hd
    cases i with
    | zero =>
      simp only [zan,Option.some.injEq] at hx
      subst hx
      cases j with
      | zero=>exact absurd rfl hne
      | succ j =>
        have h1:=hd.1
        rw [hxd] at h1
        simp only [Bool.and_eq_true] at h1
        have:=zap.1 h1.2 y (zaz (by simpa using hy))
        intro he
        rw [he] at this
        simp at this
    | succ i =>
      cases j with
      | zero =>
        simp only [zan,Option.some.injEq] at hy
        subst hy
        intro he
        have h1:=hd.1
        rw [he] at h1
        simp only [Bool.and_eq_true] at h1
        have:=zap.1 h1.2 x (zaz (by simpa using hx))
        rw [hxd] at this
        simp at this
      | succ j=>exact Qew os hd.2 i j x y d (by simpa using hx) (by simpa using hy) oo hxd
theorem Qex {N : Nat}:∀ (os:List Oper),QdA N os=true→∀ (i:Nat) (x:Oper) (d:Nat),os[i]? = some x→x.dst=some d→d<N
  | [],_,_,_,_,h,_=>by simp at h
  | z::os,hd,i,x,d,hx,hxd=>by
    simp only [QdA,Bool.and_eq_true] at hd
    cases i with
    | zero =>
      simp only [zan,Option.some.injEq] at hx
      subst hx
      have h1:=hd.1
      rw [hxd] at h1
      simp only [Bool.and_eq_true,decide_eq_true_eq] at h1
      exact h1.1
    | succ i=>exact Qex os hd.2 i x d (by simpa using hx) hxd
theorem QdQ {l : List Oper} {M:Array Nat}:∀ (os:List Oper) (ss:List Src) (k:Nat),QcB l M k os ss=true→∀ j o,os[j]? = some o→∃ s,ss[j]? = some s∧Qhp l M (k+j) o s=true
  | [],_,_,_,_,_,h=>by simp at h
  | _::_,[],_,h,_,_,_=>by simp [QcB] at h
  | o::os,s::ss,k,h,j,oj,hj=>by
    simp only [QcB,Bool.and_eq_true] at h
    cases j with
    | zero =>
      simp only [zan,Option.some.injEq] at hj
      subst hj
      exact ⟨s,rfl,h.1⟩
    | succ j =>
      obtain ⟨s',h1,h2⟩:=QdQ os ss (k+1) h.2 j oj (by simpa using hj)
      exact ⟨s',by simpa using h1,by rw [show k+(j+1)=k+1+j by omega]; exact h2⟩
theorem Qga {l : List Oper} {M:Array Nat}:∀ (os:List Oper) (ss:List Src) (k:Nat),QcB l M k os ss=true→ss.length=os.length
  | [],[],_,_=>rfl
  | [],_::_,_,h=>by simp [QcB] at h
  | _::_,[],_,h=>by simp [QcB] at h
  | o::os,s::ss,k,h=>by
    simp only [QcB,Bool.and_eq_true] at h
    simp [Qga os ss (k+1) h.2]
section
variable {P : Program} {R : World → World → Prop} {w0 : World} {a0 : Act}
theorem QaU {listed : Array Bool} {i:Nat} (h:listed.getD i false=true):listed.getD i true=true:=by
  rcases zau i listed.size with h' | h'
  · simp [h'] at h ⊢; exact h
  · simp [zai h'] at h
theorem QiF {l : List Oper} {n:Nat} {Q:Exit→Act→World→Prop} (hM:Qj3 (masks l #[]) n l.length=true) (he:Qdi 0 l=true) :
    ∀ (fuel m:Nat) (listed:Array Bool) (a:Act) (W:World),n≤m→m≤l.length→listed.size=l.length→Qdb l.toArray listed→(∀ i,i<m→listed.getD i false=true)→(∀ i,m≤i→listed.getD i false=false) →
      fuel=l.length-m→wpList P l.toArray Q (l.drop m) a W→wpAny P .any l.toArray Q fuel listed a W:=by
  have only:∀ (m:Nat) (listed:Array Bool),n≤m→Qdb l.toArray listed→(∀ i,i<m→listed.getD i false=true)→(∀ i,m≤i→listed.getD i false=false)→∀ j∈zaj .any l.toArray listed,j=m∧m<l.length:=by
    intro m listed hm hc h1 h2 j hj
    obtain ⟨hu,o,ho,_⟩:=mem_ready.1 hj
    have hjl:j<l.length:=by have:=(za0.1 ho).1; simpa using this
    have hjm:m≤j:=by
      rcases zau j m with h | h
      · have:=QaU (h1 j h); rw [this] at hu; cases hu
      · exact h
    rcases za1 hjm with h | h
    · exact ⟨h.symm,by omega⟩
    · exfalso
      have h3:=zap.1 hM j (zas.2 hjl)
      simp only [Bool.or_eq_true,decide_eq_true_eq] at h3
      rcases h3 with h3 | h3
      · omega
      · have h4:=zap.1 h3 m (zas.2 h)
        have ha:=QcD l.toArray l #[] (fun j=>by simp) (fun j i h=>by simp at h) j m h4
        have:=Qbt hc hj ha
        rw [h2 m (qR _)] at this
        cases this
  intro fuel
  induction fuel with
  | zero =>
    intro m listed a W hn hm hs hc h1 h2 hf h
    have hml:m=l.length:=by omega
    subst hml
    refine ⟨?_,by simpa [wpList] using h⟩
    cases hr:zaj .any l.toArray listed with
    | nil=>rfl
    | cons x xs=>have:=only _ listed hn hc h1 h2 x (by rw [hr]; exact zad); omega
  | succ fuel ih =>
    intro m listed a W hn hm hs hc h1 h2 hf h
    have hml:m<l.length:=by omega
    obtain ⟨o,ho⟩:∃ o,l[m]? = some o:=⟨l[m],by simp [hml]⟩
    have hd:l.drop m=o::l.drop (m+1):=by
      rw [za2 hml]
      congr 1
      exact Option.some.inj (by rw [←ho]; simp [hml])
    refine ⟨fun hr=>?_,fun j hj=>?_⟩
    · obtain ⟨j,hj⟩:=QbT he (listed:=listed) m hml (getD_in oo (h2 m (qR _)))
      rw [hr] at hj; cases hj
    · obtain ⟨rfl,_⟩:=only m listed hn hc h1 h2 j hj
      rw [hd] at h
      have h':wpOp P l.toArray Q j (wpList P l.toArray Q (l.drop (j+1))) a W:=by
        unfold wpOp
        have:(l.toArray)[j]? = some o:=by simpa using ho
        rw [this]
        exact h
      refine wpOp_mono (fun a' W' h2'=>ih (j+1) _ a' W' oo hml (by simp [hs]) (hc.set hj) (fun i hi=>?_) (fun i hi=>?_) oo h2') h'
      · by_cases hij:j=i
        · subst hij; simp [zav (show j<listed.size by omega)]
        · rw [getD_set_ne false hij]; exact h1 i oo
      · rw [getD_set_ne false oo]; exact h2 i oo
theorem QfT {l : List Oper} {n N:Nat} {S:List Src} {E:List Fact} {Q:Exit→Act→World→Prop} (hok:ok l n N S=true) (hN:a0.tmps.size=N) (hrf:∀ a,R a a) (htr:∀ {a b c:World},R a b→R b c→R a c)
    (hE:E.length=(l.take n).length) (hst:∀ φ∈E,Qb2 R φ)
    (hop:∀ j o s,(l.take n)[j]? = some o→S[j]? = some s→opOk P R w0 (slots a0) E o s (E.getD j fun _ _=>True))
    (hfin:∀ W,R w0 W→fin (fun a W=>wpList P l.toArray Q (l.drop n) a W) (l.take n) E a0 W) :
    ∀ (fuel:Nat) (listed:Array Bool) (a:Act) (W:World) (vs:Nat→Value),Inv R w0 a0 l.toArray E n listed a W vs→fuel=left l.toArray listed→wpAny P .any l.toArray Q fuel listed a W:=by
  simp only [ok,Bool.and_eq_true,decide_eq_true_eq] at hok
  obtain ⟨⟨⟨⟨⟨hn,hsrc⟩,hdst⟩,hedge⟩,htail⟩,hdt⟩:=hok
  have hlen:(l.take n).length=n:=by simp [hn]
  have hget:∀ i,i<n→(l.take n)[i]? = l[i]?:=fun i hi=>by simp [hi]
  have hgd:∀ i,(E.getD i fun _ _=>True)=(fun _ _=>True)∨(E.getD i fun _ _=>True)∈E:=fun i=>by
    rcases zau i E.length with h | h
    · right; simp [h]
    · left; simp [za3 h]
  have hstg:∀ i,Qb2 R (E.getD i fun _ _=>True):=fun i=>by
    rcases hgd i with h | h
    · rw [h]; exact fun _ _ _ _ _=>trivial
    · exact hst _ h
  have hanc:∀ j i,((masks l #[]).getD j 0).testBit i=true→Anc l.toArray i j:=QcD l.toArray l #[] (fun j=>by simp) (fun j i h=>by simp at h)
  have count:∀ (listed:Array Bool),(∀ i,i<n→listed.getD i true=true)→(∀ i,n≤i→i<l.length→listed.getD i true=false)→left l.toArray listed=l.length-n:=by
    intro listed h1 h2
    unfold left
    simp only [za4]
    have:∀ m,m≤l.length→(zak m).countP (fun i=>!listed.getD i true)=m-n:=by
      intro m
      induction m with
      | zero=>intro _; simp
      | succ m ih =>
        intro hm
        rw [zaq,zar,ih oo,zat]
        by_cases hmn:m<n
        · simp only [h1 m hmn,Bool.not_true,Bool.false_eq_true,if_false]; omega
        · simp only [h2 m oo oo,Bool.not_false,if_true]; omega
    exact this l.length (qR _)
  have done:∀ (fuel:Nat) (listed:Array Bool) (a:Act) (W:World) (vs:Nat→Value),Inv R w0 a0 l.toArray E n listed a W vs→fuel=left l.toArray listed→(∀ i,i<n→listed.getD i true=true)→wpAny P .any l.toArray Q fuel listed a W:=by
    intro fuel listed a W vs inv hf hall
    have hs:listed.size=l.length:=by simpa using inv.size
    have hall':∀ i,i<n→listed.getD i false=true:=fun i hi=>by
      cases hx:listed.getD i false with
      | true=>rfl
      | false=>have:=getD_in oo hx; rw [hall i hi] at this; cases this
    refine QiF htail hedge fuel n listed a W (qR _) hn hs inv.closed hall' inv.tail (by rw [hf]; exact count listed hall (fun i h1 h2=>getD_in oo (inv.tail i h1))) ?_
    have hq:=Qgt (l.take n) E a0 vs 0 (hfin W inv.rel) hE (fun i hi=>by
      rw [za5]
      exact inv.facts i (hall' i oo) oo)
    have heq:QaW (l.take n) vs 0 a0=a:=by
      have hsz:=Qck (l.take n) vs 0 a0
      have ht:(QaW (l.take n) vs 0 a0).tmps=a.tmps:=by
        refine za6 fun t=>?_
        by_cases hw:∃ (i:Nat) (o:Oper),(l.take n)[i]? = some o∧o.dst=some t
        · obtain ⟨i,o,hi,ho⟩:=hw
          have hin:i<n:=by have:=(za7.1 hi).1; omega
          rw [QbV (l.take n) vs 0 a0 t i o hdst hN hi ho,za5]
          exact (inv.vals i o t (hall' i hin) hin (by rw [hget i hin] at hi; simpa using hi) ho).symm
        · rw [QbI (l.take n) vs 0 a0 t (fun o ho he=>by
            obtain ⟨i,hi⟩:=za8.1 ho
            exact hw ⟨i,o,hi,he⟩)]
          refine (inv.rest t fun i o _ hin hi he=>hw ⟨i,o,by rw [hget i hin]; simpa using hi,he⟩).symm
      have hd:=hsz.2.trans inv.defers.symm
      generalize QaW (l.take n) vs 0 a0=b at *
      cases a; cases b
      simp_all
    rw [heq] at hq
    exact hq
  have main:∀ (fuel:Nat) (listed:Array Bool) (a:Act) (W:World) (vs:Nat→Value),Inv R w0 a0 l.toArray E n listed a W vs→fuel=left l.toArray listed→wpAny P .any l.toArray Q fuel listed a W:=by
    intro fuel
    induction fuel with
    | zero =>
      intro listed a W vs inv hf
      refine done 0 listed a W vs inv hf fun i hi=>?_
      cases hx:listed.getD i true with
      | true=>rfl
      | false =>
        have:=QeM (ops:=l.toArray) (by simp; omega) hx
        omega
    | succ fuel ih =>
      intro listed a W vs inv hf
      by_cases hA:∀ i,i<n→listed.getD i true=true
      · exact done _ listed a W vs inv hf hA
      · have hs:listed.size=l.length:=by simpa using inv.size
        obtain ⟨i0,hi0,hu0⟩:∃ i,i<n∧listed.getD i true=false:=by
          refine Classical.byContradiction fun hc=>hA fun i hi=>?_
          cases hx:listed.getD i true with
          | true=>rfl
          | false=>exact absurd ⟨i,hi,hx⟩ hc
        refine ⟨fun hr=>?_,fun j hj=>?_⟩
        · obtain ⟨j,hj⟩:=QbT hedge (listed:=listed) i0 oo hu0
          rw [hr] at hj; cases hj
        · obtain ⟨hju,oj,hoj,_⟩:=mem_ready.1 hj
          have hoj':l[j]? = some oj:=by simpa using hoj
          have hjl:j<l.length:=(za7.1 hoj').1
          have hjn:j<n:=by
            rcases zau j n with h | h
            · exact h
            · exfalso
              have h3:=zap.1 htail j (zas.2 hjl)
              simp only [Bool.or_eq_true,decide_eq_true_eq] at h3
              rcases h3 with h3 | h3
              · omega
              · have h4:=zap.1 h3 i0 (zas.2 oo)
                have:=Qbt inv.closed hj (hanc j i0 h4)
                rw [QaU this] at hu0
                cases hu0
          obtain ⟨s,hsj,hso⟩:=QdQ (l.take n) S 0 hsrc j oj (by rw [hget j hjn]; exact hoj')
          rw [za5] at hso
          simp only [Qhp,Bool.and_eq_true] at hso
          obtain ⟨hg,hrd⟩:=hso
          have hg':QcT l.toArray oj=some s.guard:=by simpa using hg
          have holds:∀ (r:List (Tmp×Option Nat)),r.all (QcW l (masks l #[]) j)=true→Qcz (slots a0) E (slots a) W r:=by
            intro r
            induction r with
            | nil=>intro _; trivial
            | cons x r ihr =>
              intro hr
              simp only [za9,Bool.and_eq_true] at hr
              obtain ⟨t,si⟩:=x
              cases si with
              | none =>
                refine ⟨?_,ihr hr.2⟩
                have h1:=hr.1
                simp only [QcW] at h1
                have h2:a.tmps[t]? = a0.tmps[t]?:=inv.rest t fun i o hli hin hio hd=>by
                  have h3:=zap.1 h1 (o,i) (by
                    rw [za8]
                    refine ⟨i,?_⟩
                    rw [zaA]
                    have:l[i]? = some o:=by simpa using hio
                    simp [this])
                  simp only [hd,bne_self_eq_false,Bool.false_or,Bool.or_eq_true,beq_iff_eq] at h3
                  have hlj:listed.getD j false=true:=by
                    rcases h3 with h3 | h3
                    · exact inv.closed.anc (hanc i j h3) hli
                    · rw [←h3]; exact hli
                  rw [QaU hlj] at hju
                  cases hju
                simp only [slots,zaB,h2]
              | some i =>
                refine ⟨?_,ihr hr.2⟩
                have h1:=hr.1
                simp only [QcW,Bool.and_eq_true,decide_eq_true_eq,beq_iff_eq] at h1
                obtain ⟨⟨hij,hbit⟩,hdi⟩:=h1
                have hli:=Qbt inv.closed hj (hanc j i hbit)
                obtain ⟨oi,hoi,hdi'⟩:∃ oi,l[i]? = some oi∧oi.dst=some t:=by
                  cases hx:l[i]? with
                  | none=>rw [hx] at hdi; cases hdi
                  | some oi=>rw [hx] at hdi; exact ⟨oi,rfl,hdi⟩
                have hv:=inv.vals i oi t hli oo (by simpa using hoi) hdi'
                have:slots a t=vs i:=by simp only [slots,zaB,hv,zaC]
                rw [this]
                exact inv.facts i hli oo
          have hopj:=hop j oj s (by rw [hget j hjn]; exact hoj') hsj (slots a) W inv.rel (holds s.reads hrd)
          have next:∀ v W',R W W'→(E.getD j fun _ _=>True) v W'→wpAny P .any l.toArray Q fuel (listed.setIfInBounds j true) (a.put oj.dst v) W':=by
            intro v W' hR hφ
            have hjs:j<listed.size:=by omega
            have hlist:∀ i,(listed.setIfInBounds j true).getD i false=true→i=j∨listed.getD i false=true:=fun i hi=>by
              by_cases hij:j=i
              · exact .inl hij.symm
              · rw [getD_set_ne false hij] at hi; exact .inr hi
            refine ih _ _ W' (fun i=>if i=j then v else vs i) ⟨by simp [inv.size],inv.closed.set hj,htr inv.rel hR,(put_defers _ _ _).trans inv.defers,(Qdd _ _ _).trans inv.asize,?_,?_,?_,?_⟩ ?_
            · intro i hi hin
              by_cases hij:i=j
              · subst hij; simpa using hφ
              · simp only [hij,if_false]
                rcases hlist i hi with h | h
                · exact absurd h hij
                · exact hstg i _ _ _ hR (inv.facts i h hin)
            · intro i o d hi hin hio hd
              by_cases hij:i=j
              · subst hij
                obtain rfl:o=oj:=Option.some.inj (hio.symm.trans hoj)
                rw [hd,Qc9 _ _ _ (by rw [inv.asize,hN]; exact Qex (l.take n) hdst i o d (by rw [hget i hin]; exact hoj') hd)]
                simp
              · simp only [hij,if_false]
                rcases hlist i hi with h | h
                · exact absurd h hij
                · rw [QbB _ _ _ _ (Qew (l.take n) hdst i j o oj d (by rw [hget i hin]; simpa using hio) (by rw [hget j hjn]; exact hoj') hij hd)]
                  exact inv.vals i o d h hin hio hd
            · intro t ht
              rw [QbB _ _ _ _ (ht j oj (by simp [zav hjs]) hjn hoj)]
              exact inv.rest t fun i o hi hin hio=>ht i o (getD_set_true hi) hin hio
            · intro i hi
              rw [getD_set_ne false oo]
              exact inv.tail i hi
            · have:=Qd4 hju inv.size
              omega
          refine QbX hoj ?_
          rw [QbQ hg']
          by_cases hb:gOk s.guard (slots a)=true
          · rw [if_pos hb]
            refine Qfe (R:=R) (W:=W) (φ:=E.getD j fun _ _=>True) (fun {_ _ _} h1 h2=>htr h1 h2) ?_ next
            cases hgd':s.guard with
            | none=>rw [hgd'] at hopj; exact hopj
            | some db =>
              rw [hgd'] at hopj hb
              exact (if_pos hb).mp hopj
          · rw [if_neg hb]
            refine next undef W (hrf W) ?_
            cases hgd':s.guard with
            | none=>rw [hgd'] at hb; exact absurd rfl hb
            | some db =>
              rw [hgd'] at hopj hb
              exact (if_neg hb).mp hopj
  exact main
def Qmf {P : Program} {R:World→World→Prop} {Q:Exit→Act→World→Prop} {a:Act} {w:World} {l:List Oper} {n:Nat} (F:List Fact→Prop):Prop :=
  ∀ E,(∀ W,R w.drew W→fin (fun a W=>wpList P l.toArray Q (l.drop n) a W) (l.take n) E a W)→F E
theorem Qmf.out {P : Program} {R:World→World→Prop} {Q:Exit→Act→World→Prop} {a:Act} {w:World} {l:List Oper} {n:Nat} {F:List Fact→Prop} (h:Qmf (P:=P) (R:=R) (Q:=Q) (a:=a) (w:=w) (l:=l) (n:=n) F) {E:List Fact}
    (k:∀ W,R w.drew W→fin (fun a W=>wpList P l.toArray Q (l.drop n) a W) (l.take n) E a W):F E:=h E k
theorem QcQ {id : Nat} {Q:Exit→Act→World→Prop} {a:Act} {w:World} {l:List Oper} (R:World→World→Prop) (n N:Nat) (S:List Src) (hm:P.follows .mixedOrders=true) (hok:ok l n N S=true) (hN:a.tmps.size=N)
    (hrf:∀ a,R a a) (htr:∀ {a b c:World},R a b→R b c→R a c)
    (h:∀ (F:List Fact→Prop) (r0:Tmp→Value),r0=slots a→Qmf (P:=P) (R:=R) (Q:=Q) (a:=a) (w:=w) (l:=l) (n:=n) F→relies P R w.drew r0 F (l.take n) S []):(zaD id l.toArray true).wp P Q a w:=by
  have hok':=hok
  simp only [ok,Bool.and_eq_true,decide_eq_true_eq] at hok'
  obtain ⟨⟨⟨⟨⟨hn,hsrc⟩,hdst⟩,hedge⟩,htail⟩,hdt⟩:=hok'
  obtain ⟨E,hl,_,hst,hop,hfin⟩:=QcJ (M:=masks l #[]) (l.take n) S [] (h (fun E=>∀ W,R w.drew W→fin (fun a W=>wpList P l.toArray Q (l.drop n) a W) (l.take n) E a W) _ rfl (show Qmf _ from fun _ h=>h)) hsrc (fun _ h=>by cases h)
  refine wp_region_any hm ?_
  have hcount:l.toArray.size=left l.toArray (zaE l.toArray.size false):=by
    unfold left
    have:∀ m,m≤l.toArray.size→(zak m).countP (fun i=>!(zaE l.toArray.size false).getD i true)=m:=by
      intro m
      induction m with
      | zero=>intro _; simp
      | succ m ih =>
        intro hm
        rw [zaq,zar,ih oo,zat]
        have:(zaE l.toArray.size false).getD m true=false:=by simp at hm ⊢; simp [show m<l.length by omega]
        simp only [this,Bool.not_false,if_true]
    exact (this _ (qR _)).symm
  refine QfT (R:=R) (w0:=w.drew) (a0:=a) hok hN hrf htr (by simpa using hl) hst (fun j o s hj hs=>by simpa using hop j o s hj hs) hfin _ _ a _ (fun _=>undef) ⟨by simp,?_,hrf _,rfl,rfl,?_,?_,?_,?_⟩ hcount
  · intro j o ho hl
    rw [getD_replicate_false] at hl; cases hl
  · intro i hi; rw [getD_replicate_false] at hi; cases hi
  · intro i o d hi; rw [getD_replicate_false] at hi; cases hi
  · intro t _; rfl
  · intro i _; exact getD_replicate_false _ _
end
end Rely
end
section
namespace Rely
open Go Go.RowKit
theorem Qan (W : World):Ext W W.drew:=⟨rfl,rfl,rfl,qR _,fun _ _=>rfl⟩
theorem Qbi (W : World) (o:Obj):Ext W (W.alloc o):=(Below.refl _ _).alloc (qR _) o
def nth (xs : List Int) (i:Nat):Int:=xs.getD i 0
def Qak (bs : List Int):Prop:=∀ x∈bs,0≤x∧x≤255
theorem Qak.nth {bs : List Int} (h:Qak bs) (i:Nat):0≤nth bs i∧nth bs i≤255:=by
  unfold Rely.nth
  rcases zau i bs.length with hi | hi
  · rw [zaF,zaG hi]; exact h _ (List.getElem_mem hi)
  · rw [zaF,za3 hi]; decide
def QnO (w : World) (k:IntKind) (a:Option Addr) (n:Nat) (bs:List Int):Prop :=
  n=0∨∃ b off,a=some ⟨b,off,none⟩∧b<w.heap.size∧∀ i,i<n→w.cell? ⟨b,off+i,none⟩=some (.int k (nth bs i))
def QhJ (w : World) (v:Value) (bs:List Int):Prop :=
  ∃ a cap,v=.slice a bs.length cap∧bs.length≤maxLen∧Qak bs∧QnO w .u8 a bs.length bs
def Qle (bs : List Int):ByteArray:=⟨(bs.map fun n=>UInt8.ofNat n.toNat).toArray⟩
theorem Qjm {P : Program} {src e dst:TypeId} (hs:P.underlying src=some (.slice e)) (he:P.underlying e=some (.int .u8)) (hd:P.underlying dst=some .string) {x:Value} {xs:List Int} {W:World} (hx:QhJ W x xs) :
    (convert src dst x).run P W=.ok (.string (Qle xs)) W:=by
  obtain ⟨a,cap,rfl,hl,hb,h⟩:=hx
  rcases h with h | ⟨b,off,rfl,hlt,hc⟩
  · have:xs=[]:=List.eq_nil_of_length_eq_zero h
    subst this
    cases a with
    | none=>exact run_convert_bytes_nil W src e hs he _ _ dst hd
    | some a =>
      rw [run_convert_bytes_string W src dst e _ _ _ hs he hd]
      simp [Conv.bytesToString,Qle]
      rfl
  · have:=run_convert_bytes_arg W src e hs he b off xs.length cap xs rfl (fun i hi=>hc i hi) dst hd
    rw [this]
    rfl
end Rely
end
section
namespace Rely
open Go Go.RowKit
def ints (k : IntKind) (xs:List Int):Array Value:=(xs.map (zaH k)).toArray
theorem QaD (k : IntKind) (xs:List Int) (i:Nat) (h:i<xs.length):(ints k xs)[i]? = some (.int k (nth xs i)):=by
  simp [ints,nth,h]
theorem Qbq (k : IntKind) (xs:List Int):(ints k xs).size=xs.length:=by simp [ints]
theorem Qir (k : IntKind) (xs:List Int) (i:Nat) (v:Int):(ints k xs).setIfInBounds i (.int k v)=ints k (xs.set i v):=by
  unfold ints
  simp [List.map_set]
theorem QeA {P : Program} (w:World) (d:Nat) {e:TypeId} {k:IntKind} (he:P.underlying e=some (.int k)) (hc:P.cellsOf e=1) (xs ys:List Int):∀ (is:List Nat),(∀ i∈is,i<xs.length∧i<ys.length) →
    (Op.eqItems (d+1) e (P.cellsOf e) (ints k xs) (ints k ys) is).run P w=.ok (decide (∀ i∈is,nth xs i=nth ys i)) w
  | [],_=>by simp [Op.eqItems]
  | i::is,h=>by
    have hp:P.plainKey e=true:=by simp [Program.plainKey,he]
    obtain ⟨h1,h2⟩:=h i zad
    have a1:=run_part_plain w hp (QaD k xs i h1)
    have a2:=run_part_plain w hp (QaD k ys i h2)
    have a3:=run_equalIn_int (P:=P) w d e k k (nth xs i) (nth ys i) he
    have ih:=QeA w d he hc xs ys is fun j hj=>h j (zae _ hj)
    simp only [Op.eqItems,hc,zaI,zaJ,a1,a2,a3,zaK]
    rw [hc] at ih
    by_cases hq:nth xs i=nth ys i
    · have:(nth xs i==nth ys i)=true:=beq_iff_eq.2 hq
      rw [this]
      simp only [Bool.not_true,Bool.false_eq_true,if_false,ih,zaL,forall_eq_or_imp,hq,true_and]
    · have:(nth xs i==nth ys i)=false:=beq_eq_false_iff_ne.2 hq
      rw [this]
      simp [hq]
theorem QgW {xs ys:List Int} (hl:xs.length=ys.length) (h:∀ i,i<xs.length→nth xs i=nth ys i):xs=ys:=by
  refine List.ext_getElem hl fun i h1 h2=>?_
  have:=h i h1
  simpa [nth,h1,h2] using this
theorem Qe9 {P : Program} (w:World) (d:Nat) {t e:TypeId} {n:Nat} {k:IntKind} (ht:P.underlying t=some (.array n e)) (he:P.underlying e=some (.int k)) (hc:P.cellsOf e=1) (xs ys:List Int) (hx:xs.length=n) (hy:ys.length=n) :
    (Op.equalIn (d+2) t (.agg (ints k xs)) (.agg (ints k ys))).run P w=.ok (decide (xs=ys)) w:=by
  obtain ⟨i,hi⟩:=info_of_underlying he
  rw [run_equalIn_array w (d+1) _ _ ht hi,QeA w d he hc xs ys (zak n) fun j hj=>by have:=zas.1 hj; omega]
  congr 1
  refine decide_eq_decide.2 ⟨fun h=>QgW oo fun j hj=>h j (zas.2 oo),fun h=>by rw [h]; exact fun _ _=>rfl⟩
theorem QlO {P : Program} (w:World) {t e:TypeId} {n:Nat} {k:IntKind} (ht:P.underlying t=some (.array n e)) (he:P.underlying e=some (.int k)) (hc:P.cellsOf e=1) (xs ys:List Int) (hx:xs.length=n) (hy:ys.length=n) :
    (binOp .eql t (.agg (ints k xs)) (.agg (ints k ys))).run P w=.ok (.bool (decide (xs=ys))) w:=by
  rw [run_eql_struct,Qe9 w 9998 ht he hc xs ys hx hy]
  rfl
theorem Ql8 {P : Program} (w:World) {t e:TypeId} {n:Nat} {k:IntKind} (ht:P.underlying t=some (.array n e)) (he:P.underlying e=some (.int k)) (hc:P.cellsOf e=1) (xs ys:List Int) (hx:xs.length=n) (hy:ys.length=n) :
    (binOp .neq t (.agg (ints k xs)) (.agg (ints k ys))).run P w=.ok (.bool (!decide (xs=ys))) w:=by
  rw [run_neq_struct,Qe9 w 9998 ht he hc xs ys hx hy]
  rfl
end Rely
end
section
namespace Rely
open Go Go.RowKit
theorem Qaq {W : World} {g:Nat} {o:Obj} (h:W.heap[g]? = some o):g<W.heap.size:=(za0.1 h).1
theorem Qaa {W W':World} {g:Nat} {o:Obj} (h:W.heap[g]? = some o) (e:Ext W W'):W'.heap[g]? = some o:=(e.block _ (Qaq h)).trans h
theorem Qdc {W : World} {g:Nat} {cs:Array Value} {t:TypeId} (h:W.heap[g]? = some (.cells cs t)) {k:Nat} {v:Value} (hk:cs[k]? = some v):W.cell? ⟨g,k,none⟩=some v :=
  (cell_of_row W g k cs t _ h).trans hk
end Rely
end
section
namespace Rely
open Go Go.RowKit
theorem QbH {W W':World} {row:Option Nat} {g:Nat} {cs:Array Value} {t:TypeId} (h:W.heap[g]? = some (.cells cs t)) (hg:W.grownBy W' row) (hr:∀ r,row=some r→∃ o:Obj,W.heap[r]? = some o∧o.isCells=false):W'.heap[g]? = some (.cells cs t) :=
  (hg.block g (Qaq h) fun e=>by
    obtain ⟨o,ho,hc⟩:=hr g e.symm
    rw [h] at ho
    cases ho
    cases hc).trans h
theorem QgZ {W W':World} (h:Ext W W'):KeepsOthers W W':=⟨h.size,fun k o hk _=>Qaa hk h⟩
end Rely
end
section
namespace Rely
open Go Go.RowKit
theorem QeF {P : Program} (w:World) (g off:Nat) (t ty:TypeId) (cs ps:Array Value) (fr:Nat×Nat) (d:TypeDesc) (hg:w.heap[g]? = some (.cells cs t fr)) (hp:∀ j v,ps[j]? = some v→cs[off+j]? = some v)
    (hu:P.underlying ty=some d) (hd:(match d with | .struct _ | .array _ _=>true | _=>false)=true) (hi:(P.info? ty).map (·.size)=some ps.size) :
    (loadVar ty ⟨g,off,none⟩).run P w=.ok (.agg ps) w:=by
  have hl:(loadCells ⟨g,off,none⟩ ps.toList.length).run P w=.ok ps.toList.toArray w :=
    run_loadCells_list (P:=P) w ⟨g,off,none⟩ ps.toList (fun j v hv=>by
      have hadd:(⟨g,off,none⟩:Addr).add j=⟨g,off+j,none⟩:=by unfold Addr.add; split <;> simp_all
      rw [hadd,cell_of_row w g (off+j) cs t fr hg]
      exact hp j v (by simpa using hv))
  cases hq:P.info? ty with
  | none=>simp [hq] at hi
  | some i =>
    have hs:i.size=ps.size:=by simpa [hq] using hi
    have hagg:(isAgg ty).run P w=.ok true w:=by
      unfold isAgg
      rw [zaJ,run_underlying hu w]
      cases d <;> simp_all
    simp only [zaM,Array.toArray_toList] at hl
    simp [loadVar,zaJ,hagg,sizeOf,typeInfo,hq,hs,hl]
def splice (cur : Array Value) (k:Nat):List Value→Array Value
  | []=>cur
  | v::r=>splice (cur.setIfInBounds k v) (k+1) r
theorem Qhq (w : World) (g:Nat) (cur:Array Value) (t:TypeId) (hg:w.heap[g]? = some (.cells cur t)):w.setRow g cur=w:=by
  have hv:w.heap[g]? = some (.cells cur t (0,0)):=hg
  unfold World.setRow
  cases w with
  | mk heap tape drawn os output =>
    congr 1
    apply zaN
    · simp
    · intro k h1 h2
      simp only [Array.getElem_modify]
      split
      · rename_i hk
        subst hk
        have:=(za0.1 hv).2
        simp [this]
      · rfl
theorem QcC {P : Program} (g off:Nat) (t:TypeId):∀ (vs:List Value) (i:Nat) (cur:Array Value) (w:World),w.heap[g]? = some (.cells cur t)→off+i+vs.length≤cur.size→(∀ v∈vs,v.oneCell'=true) →
    (storeCells ⟨g,off,none⟩ vs i).run P w=.ok () (w.setRow g (splice cur (off+i) vs))
  | [],i,cur,w,hg,hl,_=>by
    simp only [storeCells,splice]
    rw [Qhq w g cur t hg]
    rfl
  | v::rest,i,cur,w,hg,hl,h1=>by
    have hi:off+i<cur.size:=by simp at hl; omega
    have hadd:(⟨g,off,none⟩:Addr).add i=⟨g,off+i,none⟩:=by unfold Addr.add; split <;> simp_all
    have hcell:w.cell? ⟨g,off+i,none⟩=some cur[off+i]:=by simp [zaO,hg,hi]
    have hfro:w.frozen? ⟨g,off+i,none⟩=false:=by simp [zaP,hg]
    have hst:(store ((⟨g,off,none⟩:Addr).add i) v).run P w=.ok () (w.setRow g (cur.setIfInBounds (off+i) v)):=by
      rw [hadd,run_store P w _ v _ (h1 v (by simp)),hcell]
      simp [hfro,setCell_eq_setRow w g (off+i) cur t (0,0) v hg]
    have ih:=QcC (P:=P) g off t rest (i+1) (cur.setIfInBounds (off+i) v) (w.setRow g (cur.setIfInBounds (off+i) v)) (setRow_heap w g cur _ t _ hg) (by simp at hl ⊢; omega) (fun x hx=>h1 x (by simp [hx]))
    simp only [storeCells,zaJ,hst,zaK,ih,setRow_setRow,splice]
    rfl
theorem Qej {P : Program} (w:World) (g off:Nat) (t ty:TypeId) (old cells:Array Value) (hg:w.heap[g]? = some (.cells old t)) (hi:(P.info? ty).map (·.size)=some cells.size)
    (ho:off+cells.size≤old.size) (h1:cells.all (·.oneCell')=true) :
    (storeVar ty ⟨g,off,none⟩ (.agg cells)).run P w=.ok () (w.setRow g (splice old off cells.toList)):=by
  have:=QcC (P:=P) g off t cells.toList 0 old w hg (by simp; omega) (fun v hv=>(Array.all_eq_true_iff_forall_mem.1 h1) v (by simpa using hv))
  cases hq:P.info? ty with
  | none=>simp [hq] at hi
  | some i =>
    have hs:cells.size=i.size:=by simp [hq] at hi; omega
    simp [storeVar,sizeOf,typeInfo,hq,Value.cells,hs,this]
end Rely
end
section
namespace Rely
open Go Go.RowKit
theorem QiJ (vs : List Value):∀ (cur:Array Value) (k:Nat),k+vs.length≤cur.size→∀ j,(splice cur k vs)[j]? = if k≤j∧j<k+vs.length then vs[j-k]? else cur[j]?:=by
  induction vs with
  | nil =>
    intro cur k _ j
    rw [splice,if_neg (by simp only [List.length_nil]; omega)]
  | cons v r ih =>
    intro cur k hk j
    simp only [zaQ] at hk ⊢
    rw [splice,ih _ _ (by simp; omega)]
    by_cases h1:k+1≤j∧j<k+1+r.length
    · rw [if_pos h1,if_pos oo,show j-k=(j-(k+1))+1 by omega,zaf]
    · rw [if_neg h1]
      by_cases h2:j=k
      · subst h2
        rw [if_pos oo,zav oo,Nat.sub_self,zan]
      · rw [zay (Ne.symm h2),if_neg oo]
end Rely
end
section
namespace Rely
open Go
def Qeg (l : List Oper) (D:List Nat):Bool:=D.all fun j=>match l[j]? with | some o=>(match o.op with | .alloc _=>true | _=>false)&&o.guard.isNone | none=>false
def QnM (D : List Nat) (n:Nat) (listed:Array Bool) (vs:Nat→Value):Prop :=
  ∀ i k,i∈D→k∈D→listed.getD i false=true→listed.getD k false=true→i<n→k<n→i≠k→vs i≠vs k
def finP (Q : Act→World→Prop) (D:List Nat):List Oper→List Fact→Nat→List Value→Act→World→Prop
  | o::l,φ::E,k,acc,a,W=>∀ v,φ v W→(D.contains k=true→∀ u∈acc,u≠v)→finP Q D l E (k+1) (if D.contains k=true then acc++[v] else acc) (a.put o.dst v) W
  | _,_,_,_,a,W=>Q a W
theorem Qiy {Q : Act→World→Prop} {W:World} {D:List Nat}:∀ (os:List Oper) (E:List Fact) (a:Act) (vs:Nat→Value) (k:Nat) (acc:List Value),finP Q D os E k acc a W→E.length=os.length →
    (∀ i,i<os.length→(E.getD i fun _ _=>True) (vs (k+i)) W)→(∀ u∈acc,∃ i,i∈D∧i<k∧u=vs i)→(∀ i j,i∈D→j∈D→i<k+os.length→j<k+os.length→i≠j→vs i≠vs j)→Q (QaW os vs k a) W
  | [],[],a,vs,k,acc,h,_,_,_,_=>h
  | [],_::_,_,_,_,_,_,hl,_,_,_=>by simp at hl
  | _::_,[],_,_,_,_,_,hl,_,_,_=>by simp at hl
  | o::os,φ::E,a,vs,k,acc,h,hl,hf,ha,hp=>by
    have h0:=hf 0 (by simp)
    have hlen:(o::os).length=os.length+1:=rfl
    refine Qiy os E (a.put o.dst (vs k)) vs (k+1) _ (h (vs k) (by simpa using h0) (fun hk u hu=>?_)) (by simpa using hl) (fun i hi=>?_) (fun u hu=>?_) (fun i j hi hj hin hjn hne=>hp i j hi hj oo oo hne)
    · obtain ⟨i,hiD,hik,rfl⟩:=ha u hu
      exact hp i k hiD (by simpa using hk) oo oo oo
    · have:=hf (i+1) (by simpa using hi)
      rw [show k+(i+1)=k+1+i by omega] at this
      simpa using this
    · by_cases hk:D.contains k=true
      · rw [if_pos hk] at hu
        rcases zal.1 hu with hu | hu
        · obtain ⟨i,h1,h2,h3⟩:=ha u hu
          exact ⟨i,h1,by omega,h3⟩
        · exact ⟨k,by simpa using hk,by omega,zam.1 hu⟩
      · rw [if_neg hk] at hu
        obtain ⟨i,h1,h2,h3⟩:=ha u hu
        exact ⟨i,h1,by omega,h3⟩
section
variable {P : Program} {R : World → World → Prop} {w0 : World} {a0 : Act}
theorem QfP {l : List Oper} {D:List Nat} {j:Nat} {o:Oper} (hD:Qeg l D=true) (hj:j∈D) (ho:l[j]? = some o):(∃ ty,o.op=.alloc ty)∧o.guard=none:=by
  have h:=zap.1 hD j hj
  rw [ho] at h
  simp only [Bool.and_eq_true] at h
  refine ⟨?_,by simpa using h.2⟩
  have h1:=h.1
  cases hop:o.op <;> rw [hop] at h1 <;> first | exact ⟨_,rfl⟩ | cases h1
theorem noguard {l : List Oper} {D:List Nat} {j:Nat} {o:Oper} {g:Option (Tmp×Bool)} (hD:Qeg l D=true) (hj:j∈D) (ho:l[j]? = some o) (hg:QcT l.toArray o=some g):g=none:=by
  have h:=(QfP hD hj ho).2
  unfold QcT at hg
  rw [h] at hg
  simpa using hg.symm
theorem Qe5 {l : List Oper} {D:List Nat} {j:Nat} {o:Oper} {ρ:Tmp→Value} {W:World} {φ:Fact} (hD:Qeg l D=true) (ho:l[j]? = some o) (h:QcI P R o ρ W φ) :
    QcI P R o ρ W (fun v W'=>φ v W'∧(j∈D→v=pp W.heap.size 0)):=by
  by_cases hj:j∈D
  · obtain ⟨⟨ty,hop⟩,_⟩:=QfP hD hj ho
    unfold QcI execOp at h ⊢
    simp only [hop,Instr.alloc,zaJ] at h ⊢
    cases hz:(zeroValue ty).run P W with
    | halt x w1=>rw [hz] at h; exact h.elim
    | ok z w1 =>
      obtain rfl:=Go.MapKept.run_zeroValue_world hz
      rw [hz] at h
      exact ⟨h.1,h.2,fun _=>rfl⟩
  · unfold QcI at h ⊢
    generalize (execOp (look ρ) o).run P W=r at *
    cases r with
    | halt x w1=>exact h
    | ok x w1 =>
      cases x <;> try exact h
      case value v=>exact ⟨h.1,h.2,fun hc=>absurd hc hj⟩
      case skip=>exact ⟨h.1,h.2,fun hc=>absurd hc hj⟩
      case enter f args=>exact ⟨h.1,Calls.mono h.2 fun e W2 ⟨v,he,hr,hp⟩=>⟨v,he,hr,hp,fun hc=>absurd hc hj⟩⟩
end
end Rely
end
section
namespace Rely
open Go
section
variable {P : Program} {R : World → World → Prop} {w0 : World} {a0 : Act} {Fe : Fence} {nf : Nat}
theorem QeC {ops : Array Oper} {Q:Exit→Act→World→Prop} {i:Nat} {o:Oper} {K:Act→World→Prop} {a:Act} {w:World} (ho:ops[i]? = some o) (hfn:∀ f,Fe.fn f)
    (h:if zax o (yielded ops a.tmps) then o.wpIn Fe nf P a w K Q else K (a.put o.dst undef) w):wpOpIn Fe nf P ops Q i K a w:=by
  unfold wpOpIn
  rw [ho]
  simp only
  split at h
  · rename_i hw; rw [if_pos hw]; exact h
  · rename_i hw; rw [if_neg hw]; exact ⟨fun f _=>hfn f,h⟩
theorem Qhz {o : Oper} {a:Act} {W:World} {φ:Fact} {K:Act→World→Prop} {Q:Exit→Act→World→Prop} (hnd:∀ c,o.op≠.defer c) (hfn:∀ f,Fe.fn f) (hdp:Fe.depth.isSome=true→1≤nf)
    (hC:∀ {f:FuncId} {args:Array Value} {w:World} {T:Ending→World→Prop},Calls P f args w T→CallsIn Fe (nf-1) P f args w T)
    (htr:∀ {a b c:World},R a b→R b c→R a c) (h:QcI P R o (slots a) W φ)
    (hk:∀ v W',R W W'→φ v W'→K (a.put o.dst v) W'):o.wpIn Fe nf P a W K Q:=by
  unfold QcI at h
  rw [←Qec] at h
  unfold Oper.wpIn
  rw [Oper.semAt_plain Fe _ _ hnd]
  refine ⟨fun f _=>hfn f,?_⟩
  generalize (execOp a.eval o).run P W=r at *
  cases r with
  | halt x w=>exact h.elim
  | ok n W1 =>
    cases n <;> simp only [Qca] at h <;> try exact h.elim
    case value v=>exact hk v W1 h.1 h.2
    case skip=>exact hk undef W1 h.1 h.2
    case enter f args =>
      obtain ⟨h1,h2⟩:=h
      refine ⟨hdp,CallsIn.mono (hC h2) fun e W2 ⟨v,he,hr,hp⟩=>?_⟩
      subst he
      exact hk v W2 (htr h1 hr) hp
theorem Qg3 {l : List Oper} {n:Nat} {Q:Exit→Act→World→Prop} (hM:Qj3 (masks l #[]) n l.length=true) (he:Qdi 0 l=true) :
    ∀ (fuel m:Nat) (listed:Array Bool) (a:Act) (W:World),n≤m→m≤l.length→listed.size=l.length→Qdb l.toArray listed→(∀ i,i<m→listed.getD i false=true)→(∀ i,m≤i→listed.getD i false=false) →
      fuel=l.length-m→wpListIn Fe nf P l.toArray Q (l.drop m) a W→wpAnyIn Fe nf P .any l.toArray Q fuel listed a W:=by
  have only:∀ (m:Nat) (listed:Array Bool),n≤m→Qdb l.toArray listed→(∀ i,i<m→listed.getD i false=true)→(∀ i,m≤i→listed.getD i false=false)→∀ j∈zaj .any l.toArray listed,j=m∧m<l.length:=by
    intro m listed hm hc h1 h2 j hj
    obtain ⟨hu,o,ho,_⟩:=mem_ready.1 hj
    have hjl:j<l.length:=by have:=(za0.1 ho).1; simpa using this
    have hjm:m≤j:=by
      rcases zau j m with h | h
      · have:=QaU (h1 j h); rw [this] at hu; cases hu
      · exact h
    rcases za1 hjm with h | h
    · exact ⟨h.symm,by omega⟩
    · exfalso
      have h3:=zap.1 hM j (zas.2 hjl)
      simp only [Bool.or_eq_true,decide_eq_true_eq] at h3
      rcases h3 with h3 | h3
      · omega
      · have h4:=zap.1 h3 m (zas.2 h)
        have ha:=QcD l.toArray l #[] (fun j=>by simp) (fun j i h=>by simp at h) j m h4
        have:=Qbt hc hj ha
        rw [h2 m (qR _)] at this
        cases this
  intro fuel
  induction fuel with
  | zero =>
    intro m listed a W hn hm hs hc h1 h2 hf h
    have hml:m=l.length:=by omega
    subst hml
    refine ⟨?_,by simpa [wpListIn] using h⟩
    cases hr:zaj .any l.toArray listed with
    | nil=>rfl
    | cons x xs=>have:=only _ listed hn hc h1 h2 x (by rw [hr]; exact zad); omega
  | succ fuel ih =>
    intro m listed a W hn hm hs hc h1 h2 hf h
    have hml:m<l.length:=by omega
    obtain ⟨o,ho⟩:∃ o,l[m]? = some o:=⟨l[m],by simp [hml]⟩
    have hd:l.drop m=o::l.drop (m+1):=by
      rw [za2 hml]
      congr 1
      exact Option.some.inj (by rw [←ho]; simp [hml])
    refine ⟨fun hr=>?_,fun j hj=>?_⟩
    · obtain ⟨j,hj⟩:=QbT he (listed:=listed) m hml (getD_in oo (h2 m (qR _)))
      rw [hr] at hj; cases hj
    · obtain ⟨rfl,_⟩:=only m listed hn hc h1 h2 j hj
      rw [hd] at h
      have h':wpOpIn Fe nf P l.toArray Q j (wpListIn Fe nf P l.toArray Q (l.drop (j+1))) a W:=by
        unfold wpOpIn
        have:(l.toArray)[j]? = some o:=by simpa using ho
        rw [this]
        exact h
      refine wpOpIn_mono (fun a' W' h2'=>ih (j+1) _ a' W' oo hml (by simp [hs]) (hc.set hj) (fun i hi=>?_) (fun i hi=>?_) oo h2') h'
      · by_cases hij:j=i
        · subst hij; simp [zav (show j<listed.size by omega)]
        · rw [getD_set_ne false hij]; exact h1 i oo
      · rw [getD_set_ne false oo]; exact h2 i oo
theorem QeT {l : List Oper} {n N:Nat} {S:List Src} {E:List Fact} {Q:Exit→Act→World→Prop} (hfn:∀ f,Fe.fn f) (hdp:Fe.depth.isSome=true→1≤nf) (hC:∀ {f:FuncId} {args:Array Value} {w:World} {T:Ending→World→Prop},Calls P f args w T→CallsIn Fe (nf-1) P f args w T) (hnd:∀ o∈l,∀ c,o.op≠.defer c) (hok:ok l n N S=true) (hN:a0.tmps.size=N) (hrf:∀ a,R a a) (htr:∀ {a b c:World},R a b→R b c→R a c)
    (hE:E.length=(l.take n).length) (hst:∀ φ∈E,Qb2 R φ)
    (hop:∀ j o s,(l.take n)[j]? = some o→S[j]? = some s→opOk P R w0 (slots a0) E o s (E.getD j fun _ _=>True))
    (hfin:∀ W,R w0 W→fin (fun a W=>wpListIn Fe nf P l.toArray Q (l.drop n) a W) (l.take n) E a0 W) :
    ∀ (fuel:Nat) (listed:Array Bool) (a:Act) (W:World) (vs:Nat→Value),Inv R w0 a0 l.toArray E n listed a W vs→fuel=left l.toArray listed→wpAnyIn Fe nf P .any l.toArray Q fuel listed a W:=by
  simp only [ok,Bool.and_eq_true,decide_eq_true_eq] at hok
  obtain ⟨⟨⟨⟨⟨hn,hsrc⟩,hdst⟩,hedge⟩,htail⟩,hdt⟩:=hok
  have hlen:(l.take n).length=n:=by simp [hn]
  have hget:∀ i,i<n→(l.take n)[i]? = l[i]?:=fun i hi=>by simp [hi]
  have hgd:∀ i,(E.getD i fun _ _=>True)=(fun _ _=>True)∨(E.getD i fun _ _=>True)∈E:=fun i=>by
    rcases zau i E.length with h | h
    · right; simp [h]
    · left; simp [za3 h]
  have hstg:∀ i,Qb2 R (E.getD i fun _ _=>True):=fun i=>by
    rcases hgd i with h | h
    · rw [h]; exact fun _ _ _ _ _=>trivial
    · exact hst _ h
  have hanc:∀ j i,((masks l #[]).getD j 0).testBit i=true→Anc l.toArray i j:=QcD l.toArray l #[] (fun j=>by simp) (fun j i h=>by simp at h)
  have count:∀ (listed:Array Bool),(∀ i,i<n→listed.getD i true=true)→(∀ i,n≤i→i<l.length→listed.getD i true=false)→left l.toArray listed=l.length-n:=by
    intro listed h1 h2
    unfold left
    simp only [za4]
    have:∀ m,m≤l.length→(zak m).countP (fun i=>!listed.getD i true)=m-n:=by
      intro m
      induction m with
      | zero=>intro _; simp
      | succ m ih =>
        intro hm
        rw [zaq,zar,ih oo,zat]
        by_cases hmn:m<n
        · simp only [h1 m hmn,Bool.not_true,Bool.false_eq_true,if_false]; omega
        · simp only [h2 m oo oo,Bool.not_false,if_true]; omega
    exact this l.length (qR _)
  have done:∀ (fuel:Nat) (listed:Array Bool) (a:Act) (W:World) (vs:Nat→Value),Inv R w0 a0 l.toArray E n listed a W vs→fuel=left l.toArray listed→(∀ i,i<n→listed.getD i true=true)→wpAnyIn Fe nf P .any l.toArray Q fuel listed a W:=by
    intro fuel listed a W vs inv hf hall
    have hs:listed.size=l.length:=by simpa using inv.size
    have hall':∀ i,i<n→listed.getD i false=true:=fun i hi=>by
      cases hx:listed.getD i false with
      | true=>rfl
      | false=>have:=getD_in oo hx; rw [hall i hi] at this; cases this
    refine Qg3 htail hedge fuel n listed a W (qR _) hn hs inv.closed hall' inv.tail (by rw [hf]; exact count listed hall (fun i h1 h2=>getD_in oo (inv.tail i h1))) ?_
    have hq:=Qgt (l.take n) E a0 vs 0 (hfin W inv.rel) hE (fun i hi=>by
      rw [za5]
      exact inv.facts i (hall' i oo) oo)
    have heq:QaW (l.take n) vs 0 a0=a:=by
      have hsz:=Qck (l.take n) vs 0 a0
      have ht:(QaW (l.take n) vs 0 a0).tmps=a.tmps:=by
        refine za6 fun t=>?_
        by_cases hw:∃ (i:Nat) (o:Oper),(l.take n)[i]? = some o∧o.dst=some t
        · obtain ⟨i,o,hi,ho⟩:=hw
          have hin:i<n:=by have:=(za7.1 hi).1; omega
          rw [QbV (l.take n) vs 0 a0 t i o hdst hN hi ho,za5]
          exact (inv.vals i o t (hall' i hin) hin (by rw [hget i hin] at hi; simpa using hi) ho).symm
        · rw [QbI (l.take n) vs 0 a0 t (fun o ho he=>by
            obtain ⟨i,hi⟩:=za8.1 ho
            exact hw ⟨i,o,hi,he⟩)]
          refine (inv.rest t fun i o _ hin hi he=>hw ⟨i,o,by rw [hget i hin]; simpa using hi,he⟩).symm
      have hd:=hsz.2.trans inv.defers.symm
      generalize QaW (l.take n) vs 0 a0=b at *
      cases a; cases b
      simp_all
    rw [heq] at hq
    exact hq
  have main:∀ (fuel:Nat) (listed:Array Bool) (a:Act) (W:World) (vs:Nat→Value),Inv R w0 a0 l.toArray E n listed a W vs→fuel=left l.toArray listed→wpAnyIn Fe nf P .any l.toArray Q fuel listed a W:=by
    intro fuel
    induction fuel with
    | zero =>
      intro listed a W vs inv hf
      refine done 0 listed a W vs inv hf fun i hi=>?_
      cases hx:listed.getD i true with
      | true=>rfl
      | false =>
        have:=QeM (ops:=l.toArray) (by simp; omega) hx
        omega
    | succ fuel ih =>
      intro listed a W vs inv hf
      by_cases hA:∀ i,i<n→listed.getD i true=true
      · exact done _ listed a W vs inv hf hA
      · have hs:listed.size=l.length:=by simpa using inv.size
        obtain ⟨i0,hi0,hu0⟩:∃ i,i<n∧listed.getD i true=false:=by
          refine Classical.byContradiction fun hc=>hA fun i hi=>?_
          cases hx:listed.getD i true with
          | true=>rfl
          | false=>exact absurd ⟨i,hi,hx⟩ hc
        refine ⟨fun hr=>?_,fun j hj=>?_⟩
        · obtain ⟨j,hj⟩:=QbT hedge (listed:=listed) i0 oo hu0
          rw [hr] at hj; cases hj
        · obtain ⟨hju,oj,hoj,_⟩:=mem_ready.1 hj
          have hoj':l[j]? = some oj:=by simpa using hoj
          have hjl:j<l.length:=(za7.1 hoj').1
          have hjn:j<n:=by
            rcases zau j n with h | h
            · exact h
            · exfalso
              have h3:=zap.1 htail j (zas.2 hjl)
              simp only [Bool.or_eq_true,decide_eq_true_eq] at h3
              rcases h3 with h3 | h3
              · omega
              · have h4:=zap.1 h3 i0 (zas.2 oo)
                have:=Qbt inv.closed hj (hanc j i0 h4)
                rw [QaU this] at hu0
                cases hu0
          obtain ⟨s,hsj,hso⟩:=QdQ (l.take n) S 0 hsrc j oj (by rw [hget j hjn]; exact hoj')
          rw [za5] at hso
          simp only [Qhp,Bool.and_eq_true] at hso
          obtain ⟨hg,hrd⟩:=hso
          have hg':QcT l.toArray oj=some s.guard:=by simpa using hg
          have holds:∀ (r:List (Tmp×Option Nat)),r.all (QcW l (masks l #[]) j)=true→Qcz (slots a0) E (slots a) W r:=by
            intro r
            induction r with
            | nil=>intro _; trivial
            | cons x r ihr =>
              intro hr
              simp only [za9,Bool.and_eq_true] at hr
              obtain ⟨t,si⟩:=x
              cases si with
              | none =>
                refine ⟨?_,ihr hr.2⟩
                have h1:=hr.1
                simp only [QcW] at h1
                have h2:a.tmps[t]? = a0.tmps[t]?:=inv.rest t fun i o hli hin hio hd=>by
                  have h3:=zap.1 h1 (o,i) (by
                    rw [za8]
                    refine ⟨i,?_⟩
                    rw [zaA]
                    have:l[i]? = some o:=by simpa using hio
                    simp [this])
                  simp only [hd,bne_self_eq_false,Bool.false_or,Bool.or_eq_true,beq_iff_eq] at h3
                  have hlj:listed.getD j false=true:=by
                    rcases h3 with h3 | h3
                    · exact inv.closed.anc (hanc i j h3) hli
                    · rw [←h3]; exact hli
                  rw [QaU hlj] at hju
                  cases hju
                simp only [slots,zaB,h2]
              | some i =>
                refine ⟨?_,ihr hr.2⟩
                have h1:=hr.1
                simp only [QcW,Bool.and_eq_true,decide_eq_true_eq,beq_iff_eq] at h1
                obtain ⟨⟨hij,hbit⟩,hdi⟩:=h1
                have hli:=Qbt inv.closed hj (hanc j i hbit)
                obtain ⟨oi,hoi,hdi'⟩:∃ oi,l[i]? = some oi∧oi.dst=some t:=by
                  cases hx:l[i]? with
                  | none=>rw [hx] at hdi; cases hdi
                  | some oi=>rw [hx] at hdi; exact ⟨oi,rfl,hdi⟩
                have hv:=inv.vals i oi t hli oo (by simpa using hoi) hdi'
                have:slots a t=vs i:=by simp only [slots,zaB,hv,zaC]
                rw [this]
                exact inv.facts i hli oo
          have hopj:=hop j oj s (by rw [hget j hjn]; exact hoj') hsj (slots a) W inv.rel (holds s.reads hrd)
          have next:∀ v W',R W W'→(E.getD j fun _ _=>True) v W'→wpAnyIn Fe nf P .any l.toArray Q fuel (listed.setIfInBounds j true) (a.put oj.dst v) W':=by
            intro v W' hR hφ
            have hjs:j<listed.size:=by omega
            have hlist:∀ i,(listed.setIfInBounds j true).getD i false=true→i=j∨listed.getD i false=true:=fun i hi=>by
              by_cases hij:j=i
              · exact .inl hij.symm
              · rw [getD_set_ne false hij] at hi; exact .inr hi
            refine ih _ _ W' (fun i=>if i=j then v else vs i) ⟨by simp [inv.size],inv.closed.set hj,htr inv.rel hR,(put_defers _ _ _).trans inv.defers,(Qdd _ _ _).trans inv.asize,?_,?_,?_,?_⟩ ?_
            · intro i hi hin
              by_cases hij:i=j
              · subst hij; simpa using hφ
              · simp only [hij,if_false]
                rcases hlist i hi with h | h
                · exact absurd h hij
                · exact hstg i _ _ _ hR (inv.facts i h hin)
            · intro i o d hi hin hio hd
              by_cases hij:i=j
              · subst hij
                obtain rfl:o=oj:=Option.some.inj (hio.symm.trans hoj)
                rw [hd,Qc9 _ _ _ (by rw [inv.asize,hN]; exact Qex (l.take n) hdst i o d (by rw [hget i hin]; exact hoj') hd)]
                simp
              · simp only [hij,if_false]
                rcases hlist i hi with h | h
                · exact absurd h hij
                · rw [QbB _ _ _ _ (Qew (l.take n) hdst i j o oj d (by rw [hget i hin]; simpa using hio) (by rw [hget j hjn]; exact hoj') hij hd)]
                  exact inv.vals i o d h hin hio hd
            · intro t ht
              rw [QbB _ _ _ _ (ht j oj (by simp [zav hjs]) hjn hoj)]
              exact inv.rest t fun i o hi hin hio=>ht i o (getD_set_true hi) hin hio
            · intro i hi
              rw [getD_set_ne false oo]
              exact inv.tail i hi
            · have:=Qd4 hju inv.size
              omega
          refine QeC hoj hfn ?_
          rw [QbQ hg']
          by_cases hb:gOk s.guard (slots a)=true
          · rw [if_pos hb]
            refine Qhz (R:=R) (W:=W) (φ:=E.getD j fun _ _=>True) (hnd oj (zaz hoj')) hfn hdp hC (fun {_ _ _} h1 h2=>htr h1 h2) ?_ next
            cases hgd':s.guard with
            | none=>rw [hgd'] at hopj; exact hopj
            | some db =>
              rw [hgd'] at hopj hb
              exact (if_pos hb).mp hopj
          · rw [if_neg hb]
            refine next undef W (hrf W) ?_
            cases hgd':s.guard with
            | none=>rw [hgd'] at hb; exact absurd rfl hb
            | some db =>
              rw [hgd'] at hopj hb
              exact (if_neg hb).mp hopj
  exact main
def Qgz (Fe : Fence) (nf:Nat) {P:Program} {R:World→World→Prop} {Q:Exit→Act→World→Prop} {a:Act} {w:World} {l:List Oper} {n:Nat} (F:List Fact→Prop):Prop :=
  ∀ E,(∀ W,R w.drew W→fin (fun a W=>wpListIn Fe nf P l.toArray Q (l.drop n) a W) (l.take n) E a W)→F E
theorem Qgz.out {P : Program} {R:World→World→Prop} {Q:Exit→Act→World→Prop} {a:Act} {w:World} {l:List Oper} {n:Nat} {F:List Fact→Prop} (h:Qgz Fe nf (P:=P) (R:=R) (Q:=Q) (a:=a) (w:=w) (l:=l) (n:=n) F) {E:List Fact}
    (k:∀ W,R w.drew W→fin (fun a W=>wpListIn Fe nf P l.toArray Q (l.drop n) a W) (l.take n) E a W):F E:=h E k
theorem QeD {id : Nat} {Q:Exit→Act→World→Prop} {a:Act} {w:World} {l:List Oper} (R:World→World→Prop) (n N:Nat) (S:List Src) (hfn:∀ f,Fe.fn f) (hdp:Fe.depth.isSome=true→1≤nf) (hC:∀ {f:FuncId} {args:Array Value} {w:World} {T:Ending→World→Prop},Calls P f args w T→CallsIn Fe (nf-1) P f args w T) (hdf:(l.all fun o=>match o.op with | .defer _=>false | _=>true)=true) (hm:P.follows .mixedOrders=true) (hok:ok l n N S=true) (hN:a.tmps.size=N)
    (hrf:∀ a,R a a) (htr:∀ {a b c:World},R a b→R b c→R a c)
    (h:∀ (F:List Fact→Prop) (r0:Tmp→Value),r0=slots a→Qgz Fe nf (P:=P) (R:=R) (Q:=Q) (a:=a) (w:=w) (l:=l) (n:=n) F→relies P R w.drew r0 F (l.take n) S []):(zaD id l.toArray true).wpIn Fe nf P Q a w:=by
  have hnd:∀ o∈l,∀ c,o.op≠.defer c:=fun o ho c hc=>by
    have:=zap.1 hdf o ho
    rw [hc] at this
    cases this
  have hok':=hok
  simp only [ok,Bool.and_eq_true,decide_eq_true_eq] at hok'
  obtain ⟨⟨⟨⟨⟨hn,hsrc⟩,hdst⟩,hedge⟩,htail⟩,hdt⟩:=hok'
  obtain ⟨E,hl,_,hst,hop,hfin⟩:=QcJ (M:=masks l #[]) (l.take n) S [] (h (fun E=>∀ W,R w.drew W→fin (fun a W=>wpListIn Fe nf P l.toArray Q (l.drop n) a W) (l.take n) E a W) _ rfl (show Qgz Fe nf _ from fun _ h=>h)) hsrc (fun _ h=>by cases h)
  refine wpIn_region_any hm ?_
  have hcount:l.toArray.size=left l.toArray (zaE l.toArray.size false):=by
    unfold left
    have:∀ m,m≤l.toArray.size→(zak m).countP (fun i=>!(zaE l.toArray.size false).getD i true)=m:=by
      intro m
      induction m with
      | zero=>intro _; simp
      | succ m ih =>
        intro hm
        rw [zaq,zar,ih oo,zat]
        have:(zaE l.toArray.size false).getD m true=false:=by simp at hm ⊢; simp [show m<l.length by omega]
        simp only [this,Bool.not_false,if_true]
    exact (this _ (qR _)).symm
  refine QeT (R:=R) (w0:=w.drew) (a0:=a) hfn hdp hC hnd hok hN hrf htr (by simpa using hl) hst (fun j o s hj hs=>by simpa using hop j o s hj hs) hfin _ _ a _ (fun _=>undef) ⟨by simp,?_,hrf _,rfl,rfl,?_,?_,?_,?_⟩ hcount
  · intro j o ho hl
    rw [getD_replicate_false] at hl; cases hl
  · intro i hi; rw [getD_replicate_false] at hi; cases hi
  · intro i o d hi; rw [getD_replicate_false] at hi; cases hi
  · intro t _; rfl
  · intro i _; exact getD_replicate_false _ _
end
end Rely
end
section
namespace Auto
open Go Go.RowKit
open Rely
abbrev Env := List (Nat × Value)
def get (L : Env) (t:Nat):Value:=match L with | []=>undef | (k,v)::r=>bif zaR k t then v else get r t
def envN (N : Nat) (L:Env) (t:Nat):Value:=bif zaS t N then get L t else undef
def Qav (ds : List Deferred) (N:Nat) (L:Env):Act:={ tmps:=zaT (n:=N) fun t=>get L t.1,defers:=ds }
variable {ds : List Deferred}
theorem QbF (N : Nat) (L:Env):slots (Qav ds N L)=envN N L:=by
  funext t
  unfold slots Qav envN
  by_cases h:t<N
  · have:zaS t N=true:=by simpa using h
    simp [this,h]
  · have:zaS t N=false:=by
      cases hh:zaS t N with
      | false=>rfl
      | true=>exact absurd (by simpa using hh) h
    simp [this,h]
theorem QaZ (N : Nat) (L:Env):(Qav ds N L).eval=Rely.look (envN N L):=by rw [Qec,QbF]
theorem Qc8 (N : Nat) (L:Env):(Qav ds N L).tmps.size=N:=by simp [Qav]
theorem QaS (N : Nat) (L:Env) (d:Nat) (v:Value):(Qav ds N L).put (some d) v=Qav ds N ((d,v)::L):=by
  show (⟨(zaT (n:=N) fun t=>get L t.1).setIfInBounds d v,ds⟩:Act)=⟨zaT (n:=N) fun t=>get ((d,v)::L) t.1,ds⟩
  congr 1
  apply zaN
  · simp
  · intro i h1 h2
    simp only [Array.size_setIfInBounds,Array.size_ofFn] at h1
    by_cases hd:d=i
    · subst hd
      simp [get]
    · rw [Array.getElem_setIfInBounds_ne (by simpa using h1) hd]
      have:zaR d i=false:=by
        cases h:zaR d i with
        | false=>rfl
        | true=>exact absurd (zaU h) hd
      simp [get,this]
def up (d : Option Nat) (v:Value) (L:Env):Env:=match d with | some t=>(t,v)::L | none=>L
theorem QgJ (N : Nat) (L:Env) (d:Option Nat) (v:Value):(Qav ds N L).put d v=Qav ds N (up d v L):=by
  cases d
  · rfl
  · exact QaS _ _ _ _
def QdL : List Value→Nat→Env
  | [],_=>[]
  | v::r,k=>(k,v)::QdL r (k+1)
theorem Qiw : ∀ (l:List Value) (k t:Nat),get (QdL l k) t=if k≤t then l.getD (t-k) undef else undef
  | [],k,t=>by simp [QdL,get]
  | v::r,k,t=>by
    rw [QdL,get]
    by_cases h:k=t
    · subst h
      simp
    · have hb:zaR k t=false:=by
        cases hh:zaR k t with
        | false=>rfl
        | true=>exact absurd (zaU hh) h
      rw [hb,cond_false,Qiw r (k+1) t]
      by_cases h1:k+1≤t
      · rw [if_pos h1,if_pos oo,show t-k=(t-(k+1))+1 by omega]
        simp
      · rw [if_neg h1,if_neg oo]
theorem entry (args : Array Value) (N:Nat) (h:args.size≤N):({ tmps:=args++zaE (N-args.size) undef,defers:=[] }:Act)=Qav [] N (QdL args.toList 0):=by
  unfold Qav
  congr 1
  apply zaN
  · simp; omega
  · intro i h1 h2
    simp only [Array.getElem_ofFn,Qiw,zaV,if_true,Nat.sub_zero]
    by_cases hi:i<args.size
    · rw [Array.getElem_append_left hi]
      simp [hi]
    · rw [Array.getElem_append_right oo]
      simp [hi]
theorem enter {P : Program} {f:FuncId} {fn:Func} {c:Code} {args:Array Value} {w:World} {R:Ending→World→Prop} (N:Nat) (L:Env)
    (hf:P.funcs[f]? = some fn) (hb:fn.body=some c) (hn:fn.ntmps=N) (hs:Nat.ble args.size N=true) (hL:QdL args.toList 0=L)
    (h:c.wp P (bodyPost P fn R) (Qav [] N L) w):Calls P f args w R:=by
  subst hn
  subst hL
  refine calls_of_wp hf hb ?_
  rw [entry _ _ (by simpa using hs)]
  exact h
def Qbp (ops : Array Oper) (o:Oper) (N:Nat) (L:Env):Option Bool :=
  match QcT ops o with
  | some g=>some (gOk g (envN N L))
  | none=>none
theorem Qb1 {ops : Array Oper} {o:Oper} {N:Nat} {L:Env} {b:Bool} (h:Qbp ops o N L=some b):zax o (yielded ops (Qav ds N L).tmps)=b:=by
  unfold Qbp at h
  split at h
  · rename_i g hg
    rw [QbQ hg,QbF]
    exact Option.some.inj h
  · cases h
structure WL (P : Program) (ops : Array Oper) (Q : Exit → Act → World → Prop) (rest : List Oper) (a : Act) (w : World) : Prop where
  out:wpList P ops Q rest a w
theorem Qaj {P : Program} {Q:Exit→Act→World→Prop} {a:Act} {w:World} {id:Nat} {l:List Oper} (h:WL P l.toArray Q l a w):(zaD id l.toArray false).wp P Q a w:=wp_region_lit h.out
section
variable {P : Program} {ops : Array Oper} {Q : Exit → Act → World → Prop} {rest : List Oper} {o : Oper} {N : Nat} {L : Env} {w : World}
theorem Qf9 (hg : Qbp ops o N L=some true) (h:∀ K:Act→World→Prop,(∀ a w,WL P ops Q rest a w→K a w)→o.upon P (Qav ds N L) K Q ((execOp (Rely.look (envN N L)) o).run P w)):WL P ops Q (o::rest) (Qav ds N L) w :=
  ⟨wpList_step fun K hK=>by
    rw [if_pos (Qb1 hg)]
    unfold Oper.wp
    rw [QaZ]
    exact h K fun a w hh=>hK a w hh.out⟩
theorem QeH (d : Nat) (hd:o.dst=some d) (hg:Qbp ops o N L=some false) (k:WL P ops Q rest (Qav ds N ((d,undef)::L)) w):WL P ops Q (o::rest) (Qav ds N L) w :=
  ⟨wpList_step fun K hK=>by
    rw [if_neg (by rw [Qb1 hg]; decide),hd,QaS]
    exact hK _ _ k.out⟩
theorem QmJ (v : Value) (d:Nat) (hd:o.dst=some d) (hg:Qbp ops o N L=some true) (h:(execOp (Rely.look (envN N L)) o).run P w=.ok (.value v) w) (k:WL P ops Q rest (Qav ds N ((d,v)::L)) w):WL P ops Q (o::rest) (Qav ds N L) w :=
  Qf9 hg fun K hK=>by
    rw [h]
    show K _ _
    rw [hd,QaS]
    exact hK _ _ k
theorem Qbs (v : Value) (w':World) (d:Nat) (hd:o.dst=some d) (hg:Qbp ops o N L=some true) (h:(execOp (Rely.look (envN N L)) o).run P w=.ok (.value v) w') (k:WL P ops Q rest (Qav ds N ((d,v)::L)) w'):WL P ops Q (o::rest) (Qav ds N L) w :=
  Qf9 hg fun K hK=>by
    rw [h]
    show K _ _
    rw [hd,QaS]
    exact hK _ _ k
theorem Qj5 (w' : World) (hd:o.dst=none) (hg:Qbp ops o N L=some true) (h:(execOp (Rely.look (envN N L)) o).run P w=.ok .skip w') (k:WL P ops Q rest (Qav ds N L) w'):WL P ops Q (o::rest) (Qav ds N L) w :=
  Qf9 hg fun K hK=>by
    rw [h]
    show K _ _
    rw [hd]
    exact hK _ _ k
theorem Qah (cs : Array Value) (T:TypeId) (d:Nat) (hd:o.dst=some d) (hg:Qbp ops o N L=some true) (h:(execOp (Rely.look (envN N L)) o).run P w=.ok (.value (pp w.heap.size 0)) (w.alloc (.cells cs T)))
    (k:∀ (g:Nat) (W:World),w.heap.size≤g→Ext w W→W.heap[g]? = some (.cells cs T)→WL P ops Q rest (Qav ds N ((d,pp g 0)::L)) W):WL P ops Q (o::rest) (Qav ds N L) w :=
  Qbs _ _ d hd hg h (k _ _ (qR _) (Qbi _ _) (heap_alloc_new _ _))
theorem Qao (v : Value) (f:FuncId) (args:Array Value) (d:Nat) (hd:o.dst=some d) (hg:Qbp ops o N L=some true) (h:(execOp (Rely.look (envN N L)) o).run P w=.ok (.enter f args) w)
    (hc:Calls P f args w (Ret w v)) (k:∀ W:World,Ext w W→WL P ops Q rest (Qav ds N ((d,v)::L)) W):WL P ops Q (o::rest) (Qav ds N L) w :=
  Qf9 hg fun K hK=>by
    rw [h]
    refine hc.mono ?_
    rintro e w' ⟨rfl,hw⟩
    show K _ _
    rw [hd,QaS]
    exact hK _ _ (k _ hw)
theorem Qau (R : Value→World→Prop) (f:FuncId) (args:Array Value) (d:Nat) (hd:o.dst=some d) (hg:Qbp ops o N L=some true) (h:(execOp (Rely.look (envN N L)) o).run P w=.ok (.enter f args) w)
    (hc:Calls P f args w fun e w'=>∃ v,e=.returned v∧R v w') (k:∀ (v:Value) (W:World),R v W→WL P ops Q rest (Qav ds N ((d,v)::L)) W):WL P ops Q (o::rest) (Qav ds N L) w :=
  Qf9 hg fun K hK=>by
    rw [h]
    refine hc.mono ?_
    rintro e w' ⟨v,rfl,hw⟩
    show K _ _
    rw [hd,QaS]
    exact hK _ _ (k _ _ hw)
theorem Qas (k : Q .normal (Qav ds N L) w):WL P ops Q [] (Qav ds N L) w:=⟨k⟩
end
def Puts (w : World) (g:Nat) (W:World):Prop:=W.os=w.os∧W.tape=w.tape∧W.output=w.output∧W.heap.size=w.heap.size∧∀ k,k≠g→W.heap[k]? = w.heap[k]?
theorem Qbe (w : World) (g:Nat) (cs:Array Value):Puts w g (w.setRow g cs):=⟨rfl,rfl,rfl,by simp,fun k hk=>setRow_other _ _ _ _ hk⟩
theorem Puts.row {w W:World} {g k:Nat} {ob:Obj} (h:Puts w g W) (hk:w.heap[k]? = some ob) (hn:k≠g):W.heap[k]? = some ob:=(h.2.2.2.2 k hn).trans hk
theorem Puts.ext {w0 w W:World} {g:Nat} (h:Puts w g W) (he:Ext w0 w) (hg:w0.heap.size≤g):Ext w0 W :=
  ⟨h.1.trans he.os,h.2.1.trans he.tape,h.2.2.1.trans he.output,by have:=he.size; have:=h.2.2.2.1; omega,fun k hk=>(h.2.2.2.2 k oo).trans (he.block k hk)⟩
theorem Ext.tr {a b c:World} (h:Ext a b) (k:Ext b c):Ext a c:=Rely.Ext.trans h k
theorem Qad {w : World} {k g:Nat} {ob:Obj} (hk:w.heap[k]? = some ob) (hg:w.heap.size≤g):k≠g:=by
  have:=Qaq hk
  omega
theorem QaI {w : World} {k g:Nat} {ob:Obj} (hk:w.heap[k]? = some ob) (hg:w.heap.size≤g):g≠k:=by
  have:=Qaq hk
  omega
def aggB : TypeDesc→Bool
  | .struct _=>true
  | .array _ _=>true
  | _=>false
def aggD (P : Program) (ty:TypeId):Option Bool:=(P.underlying ty).map aggB
theorem Qa4 {P : Program} {ρ:Operand→Value} {o:Oper} {w:World} (ty:TypeId) (x:Operand) (g off:Nat) (t:TypeId) (cs ps:Array Value) (fr:Nat×Nat) (hg:w.heap[g]? = some (.cells cs t fr))
    (ho:o.op=.load ty x) (hx:ρ x=pp g off) (hp:∀ j v,ps[j]? = some v→cs[off+j]? = some v) (hu:aggD P ty=some true) (hi:(P.info? ty).map (·.size)=some ps.size) :
    (execOp ρ o).run P w=.ok (.value (.agg ps)) w:=by
  unfold aggD at hu
  cases hd:P.underlying ty with
  | none=>rw [hd] at hu; cases hu
  | some d =>
    rw [hd] at hu
    have hdd:aggB d=true:=Option.some.inj hu
    have:=QeF w g off t ty cs ps fr d hg hp hd (by cases d <;> first | rfl | cases hdd) hi
    unfold execOp
    simp only [ho,hx,Instr.loadAt,Instr.sureAddr,zaJ,zaW,zaK,this]
theorem Qae {P : Program} {ρ:Operand→Value} {o:Oper} {w:World} (ty:TypeId) (x:Operand) (g:Nat) (t:TypeId) (cs:Array Value) (fr:Nat×Nat) (hg:w.heap[g]? = some (.cells cs t fr))
    (ho:o.op=.load ty x) (hx:ρ x=pp g 0) (hu:aggD P ty=some true) (hi:(P.info? ty).map (·.size)=some cs.size) :
    (execOp ρ o).run P w=.ok (.value (.agg cs)) w :=
  Qa4 ty x g 0 t cs cs fr hg ho hx (fun j v h=>by rw [za5]; exact h) hu hi
theorem Qab {P : Program} {ρ:Operand→Value} {o:Oper} {w:World} (ty:TypeId) (x:Operand) (g off:Nat) (t:TypeId) (cs:Array Value) (v:Value) (fr:Nat×Nat) (hg:w.heap[g]? = some (.cells cs t fr))
    (ho:o.op=.load ty x) (hx:ρ x=pp g off) (hp:cs[off]? = some v) (hu:aggD P ty=some false) :
    (execOp ρ o).run P w=.ok (.value v) w:=by
  unfold aggD at hu
  cases hd:P.underlying ty with
  | none=>rw [hd] at hu; cases hu
  | some d =>
    rw [hd] at hu
    have hdd:aggB d=false:=Option.some.inj hu
    have hc:w.cell? ⟨g,off,none⟩=some v:=(cell_of_row w g off cs t fr hg).trans hp
    have hagg:(isAgg ty).run P w=.ok false w:=by
      unfold isAgg
      rw [zaJ,run_underlying hd w]
      cases d <;> first | rfl | cases hdd
    unfold execOp
    simp [ho,hx,Instr.loadAt,Instr.sureAddr,loadVar,hagg,hc]
def sp (cur : Array Value) (k:Nat) (vs:List Value):Array Value:=splice cur k vs
theorem Qf4 {P : Program} {ρ:Operand→Value} {o:Oper} {w:World} (ty:TypeId) (x y:Operand) (g off:Nat) (t:TypeId) (old cells:Array Value) (hg:w.heap[g]? = some (.cells old t))
    (ho:o.op=.store ty x y) (hx:ρ x=pp g off) (hy:ρ y=.agg cells) (hi:(P.info? ty).map (·.size)=some cells.size) (hs:Nat.ble (off+cells.size) old.size=true) (h1:cells.all (·.oneCell')=true) :
    (execOp ρ o).run P w=.ok .skip (w.setRow g (splice old off cells.toList)):=by
  unfold execOp
  simp only [ho,hx,hy,Instr.storeAt,Instr.sureAddr,zaJ,zaW,zaK,Qej w g off t ty old cells hg hi (by simpa using hs) h1]
theorem Qaf {P : Program} {ρ:Operand→Value} {o:Oper} {w:World} (ty:TypeId) (x y:Operand) (g:Nat) (t:TypeId) (old cells:Array Value) (hg:w.heap[g]? = some (.cells old t))
    (ho:o.op=.store ty x y) (hx:ρ x=pp g 0) (hy:ρ y=.agg cells) (hi:(P.info? ty).map (·.size)=some cells.size) (hs:old.size=cells.size) (h1:cells.all (·.oneCell')=true) :
    (execOp ρ o).run P w=.ok .skip (w.setRow g cells):=by
  unfold execOp
  simp only [ho,hx,hy,Instr.storeAt,Instr.sureAddr,zaJ,zaW,zaK,run_storeVar_row w g t ty old cells hg hi hs h1]
theorem Qbj {P : Program} {ρ:Operand→Value} {o:Oper} {w:World} (ty:TypeId) (x y:Operand) (g off:Nat) (t:TypeId) (old:Array Value) (v:Value) (hg:w.heap[g]? = some (.cells old t))
    (ho:o.op=.store ty x y) (hx:ρ x=pp g off) (hy:ρ y=v) (hi:(P.info? ty).map (·.size)=some 1) (hs:zaS off old.size=true) (h1:v.oneCell'=true) (hcs:v.cells=#[v]) :
    (execOp ρ o).run P w=.ok .skip (w.setRow g (old.setIfInBounds off v)):=by
  have hlt:off<old.size:=by simpa using hs
  have hcell:w.cell? ⟨g,off,none⟩=some old[off]:=by simp [zaO,hg,hlt]
  have hfro:w.frozen? ⟨g,off,none⟩=false:=by simp [zaP,hg]
  cases hq:P.info? ty with
  | none=>simp [hq] at hi
  | some i =>
    have hs':i.size=1:=by simpa [hq] using hi
    have hst:(store (⟨g,off,none⟩:Addr) v).run P w=.ok () (w.setRow g (old.setIfInBounds off v)):=by
      rw [run_store P w _ v _ h1,hcell]
      simp [hfro,setCell_eq_setRow w g off old t (0,0) v hg]
    have hadd:(⟨g,off,none⟩:Addr).add 0=⟨g,off,none⟩:=by unfold Addr.add; split <;> simp_all
    unfold execOp
    simp [ho,hx,hy,Instr.storeAt,Instr.sureAddr,storeVar,sizeOf,typeInfo,hq,hs',hcs,storeCells,hadd,hst]
section
variable {P : Program} {ops : Array Oper} {Q : Exit → Act → World → Prop} {rest : List Oper} {o : Oper} {N : Nat} {L : Env} {w : World}
theorem Qag (g : Nat) (old cs:Array Value) (t:TypeId) (hg:w.heap[g]? = some (.cells old t)) (hd:o.dst=none) (hw:Qbp ops o N L=some true) (h:(execOp (Rely.look (envN N L)) o).run P w=.ok .skip (w.setRow g cs))
    (k:∀ W:World,Puts w g W→W.heap[g]? = some (.cells cs t)→WL P ops Q rest (Qav ds N L) W):WL P ops Q (o::rest) (Qav ds N L) w :=
  Qj5 _ hd hw h (k _ (Qbe _ _ _) (setRow_heap _ _ _ _ _ _ hg))
end
def envS (N : Nat) (L:Env) (C:List Value):List (Tmp×Option Nat)→Env
  | []=>[]
  | (t,some i)::r=>(t,C.getD i undef)::envS N L C r
  | (t,none)::r=>(t,envN N L t)::envS N L C r
inductive Kn where
  | is (v:Value)
  | new (cs:Array Value) (T:TypeId)
def Kn.fact (base : Nat):Kn→Fact
  | .is c=>fun v _=>v=c
  | .new cs T=>fun v W=>∃ g,v=.pointer (some ⟨g,0,none⟩)∧base≤g∧W.heap[g]? = some (.cells cs T)
def Kn.val : Kn→Value
  | .is c=>c
  | .new _ _=>undef
theorem Kn.stable (base : Nat) (k:Kn):Qb2 Ext (k.fact base):=by
  cases k with
  | is c=>exact fun _ _ _ _ h=>h
  | new cs T=>exact fun v W W' hR ⟨g,h1,h2,h3⟩=>⟨g,h1,h2,Qaa h3 hR⟩
def steps (P : Program) (w0:World) (base:Nat) (N:Nat) (L:Env) (F:List Kn→Prop):List Oper→List Src→List Kn→Prop
  | o::os,s::ss,C=>∃ k:Kn,opOk P Ext w0 (envN N L) (C.map (Kn.fact base)) o s (k.fact base)∧steps P w0 base N L F os ss (C++[k])
  | _,_,C=>F C
theorem Qez {P : Program} {w0:World} {base N:Nat} {L:Env} {F:List Kn→Prop} {G:List Fact→Prop} (hFG:∀ C,F C→G (C.map (Kn.fact base))):∀ (os:List Oper) (ss:List Src) (C:List Kn),steps P w0 base N L F os ss C→relies P Ext w0 (envN N L) G os ss (C.map (Kn.fact base))
  | [],_,C,h=>hFG C (by simpa [steps] using h)
  | _::_,[],C,h=>hFG C (by simpa [steps] using h)
  | o::os,s::ss,C,⟨k,h1,h2⟩=>by
    refine ⟨k.fact base,Kn.stable base k,h1,?_⟩
    have:=Qez hFG os ss (C++[k]) h2
    simpa using this
theorem Qd7 {N : Nat} {L:Env} {base:Nat} {C:List Kn} {ρ:Tmp→Value} {W:World}:∀ (r:List (Tmp×Option Nat)),(r.all fun x=>match x.2 with | some i=>(match C[i]? with | some (.is _)=>true | _=>false) | none=>true)=true →
    Qcz (envN N L) (C.map (Kn.fact base)) ρ W r→∀ t,(r.any fun x=>zaR x.1 t)=true→ρ t=get (envS N L (C.map Kn.val) r) t
  | [],_,_,t,h=>by simp at h
  | (u,none)::r,ha,hh,t,h=>by
    simp only [za9,Bool.and_eq_true] at ha
    rw [envS,get]
    by_cases hu:zaR u t=true
    · rw [hu,cond_true,←zaU hu]
      exact hh.1
    · have hu':zaR u t=false:=by
        cases hb:zaR u t with
        | false=>rfl
        | true=>exact absurd hb hu
      rw [hu',cond_false]
      refine Qd7 r ha.2 hh.2 t ?_
      simp only [List.any_cons,hu',Bool.false_or] at h
      exact h
  | (u,some i)::r,ha,hh,t,h=>by
    simp only [za9,Bool.and_eq_true] at ha
    rw [envS,get]
    by_cases hu:zaR u t=true
    · rw [hu,cond_true,←zaU hu]
      have h1:=hh.1
      have h2:=ha.1
      cases hc:C[i]? with
      | none=>simp [hc] at h2
      | some k =>
        cases k with
        | new cs T=>simp [hc] at h2
        | is c =>
          simp only [zaF,zaX,hc,zaY,zaC,Kn.fact] at h1
          simp [hc,Kn.val,h1]
    · have hu':zaR u t=false:=by
        cases hb:zaR u t with
        | false=>rfl
        | true=>exact absurd hb hu
      rw [hu',cond_false]
      refine Qd7 r ha.2 hh.2 t ?_
      simp only [List.any_cons,hu',Bool.false_or] at h
      exact h
def seen (C : List Kn) (o:Oper) (s:Src):Bool :=
  (match o.op with | .select _ _=>false | _=>true) &&
  (s.reads.all fun x=>match x.2 with | some i=>(match C[i]? with | some (.is _)=>true | _=>false) | none=>true) &&
  (o.op.operands.toList.all fun x=>match x with | .tmp t=>s.reads.any fun x=>zaR x.1 t | _=>true) &&
  (match s.guard with | some (d,_)=>s.reads.any fun x=>zaR x.1 d | none=>true)
theorem QcU {N : Nat} {L:Env} {base:Nat} {C:List Kn} {o:Oper} {s:Src} {ρ:Tmp→Value} {W:World} (hs:seen C o s=true) (hh:Qcz (envN N L) (C.map (Kn.fact base)) ρ W s.reads) :
    execOp (Rely.look ρ) o=execOp (Rely.look (get (envS N L (C.map Kn.val) s.reads))) o:=by
  simp only [seen,Bool.and_eq_true] at hs
  obtain ⟨⟨⟨h1,h2⟩,h3⟩,h4⟩:=hs
  refine execOp_congr o (fun cs b hc=>by rw [hc] at h1; cases h1) fun x hx=>?_
  cases x with
  | tmp t =>
    have:=zap.1 h3 (.tmp t) (zah.2 hx)
    exact Qd7 s.reads h2 hh t this
  | const v=>rfl
  | global g=>rfl
  | func f=>rfl
theorem Qcr {N : Nat} {L:Env} {base:Nat} {C:List Kn} {o:Oper} {s:Src} {ρ:Tmp→Value} {W:World} (hs:seen C o s=true) (hh:Qcz (envN N L) (C.map (Kn.fact base)) ρ W s.reads) (p q:Prop) :
    guarded s.guard ρ p q=guarded s.guard (get (envS N L (C.map Kn.val) s.reads)) p q:=by
  simp only [seen,Bool.and_eq_true] at hs
  obtain ⟨⟨⟨h1,h2⟩,h3⟩,h4⟩:=hs
  cases hg:s.guard with
  | none=>rfl
  | some db =>
    obtain ⟨d,b⟩:=db
    rw [hg] at h4
    show (if isB b (ρ d)=true then p else q)=(if isB b (get (envS N L (C.map Kn.val) s.reads) d)=true then p else q)
    rw [Qd7 s.reads h2 hh d h4]
theorem Qcc {g : Option (Tmp×Bool)} {ρ:Tmp→Value} {p q:Prop} (hg:gOk g ρ=true) (h:p):guarded g ρ p q:=by
  cases g with
  | none=>exact h
  | some db=>exact (if_pos hg).mpr h
theorem QhA {g : Option (Tmp×Bool)} {ρ:Tmp→Value} {p q:Prop} (hg:gOk g ρ=false) (h:q):guarded g ρ p q:=by
  cases g with
  | none=>cases hg
  | some db =>
    unfold guarded
    unfold gOk at hg
    simp only [hg,Bool.false_eq_true,if_false]
    exact h
section
variable {P : Program} {w0 : World} {base N : Nat} {L : Env} {F : List Kn → Prop} {o : Oper} {os : List Oper} {s : Src} {ss : List Src} {C : List Kn}
theorem QkR (k : Kn) (hs:seen C o s=true) (hg:gOk s.guard (get (envS N L (C.map Kn.val) s.reads))=true)
    (h:∀ W,Ext w0 W→Qca P Ext W (k.fact base) ((execOp (Rely.look (get (envS N L (C.map Kn.val) s.reads))) o).run P W))
    (hk:steps P w0 base N L F os ss (C++[k])):steps P w0 base N L F (o::os) (s::ss) C :=
  ⟨k,fun ρ W hR hh=>by
    rw [Qcr hs hh]
    refine Qcc hg ?_
    unfold QcI
    rw [QcU hs hh]
    exact h W hR,hk⟩
theorem Qbv (hs : seen C o s=true) (hg:gOk s.guard (get (envS N L (C.map Kn.val) s.reads))=false)
    (hk:steps P w0 base N L F os ss (C++[.is undef])):steps P w0 base N L F (o::os) (s::ss) C :=
  ⟨.is undef,fun ρ W hR hh=>by
    rw [Qcr hs hh]
    exact QhA hg rfl,hk⟩
theorem Qar (v : Value) (hs:seen C o s=true) (hg:gOk s.guard (get (envS N L (C.map Kn.val) s.reads))=true)
    (h:∀ W,(execOp (Rely.look (get (envS N L (C.map Kn.val) s.reads))) o).run P W=.ok (.value v) W)
    (hk:steps P w0 base N L F os ss (C++[.is v])):steps P w0 base N L F (o::os) (s::ss) C :=
  QkR (.is v) hs hg (fun W _=>by rw [h]; exact ⟨Ext.refl _,rfl⟩) hk
theorem QaK (v : Value) (hs:seen C o s=true) (hg:gOk s.guard (get (envS N L (C.map Kn.val) s.reads))=true)
    (h:∀ W,Ext w0 W→(execOp (Rely.look (get (envS N L (C.map Kn.val) s.reads))) o).run P W=.ok (.value v) W)
    (hk:steps P w0 base N L F os ss (C++[.is v])):steps P w0 base N L F (o::os) (s::ss) C :=
  QkR (.is v) hs hg (fun W hR=>by rw [h W hR]; exact ⟨Ext.refl _,rfl⟩) hk
theorem QcP (v : Value) (f:FuncId) (args:Array Value) (hs:seen C o s=true) (hg:gOk s.guard (get (envS N L (C.map Kn.val) s.reads))=true)
    (h:∀ W,(execOp (Rely.look (get (envS N L (C.map Kn.val) s.reads))) o).run P W=.ok (.enter f args) W) (hc:∀ W,Ext w0 W→Calls P f args W (Ret W v))
    (hk:steps P w0 base N L F os ss (C++[.is v])):steps P w0 base N L F (o::os) (s::ss) C :=
  QkR (.is v) hs hg (fun W hR=>by
    rw [h]
    exact ⟨Ext.refl _,(hc W hR).mono fun _ _ h=>h.const⟩) hk
end
def ups (L : Env):List Oper→List Kn→Env
  | o::os,k::C=>ups (up o.dst k.val L) os C
  | _,_=>L
theorem Qk6 {Q : Act→World→Prop} {base N:Nat} {W:World}:∀ (os:List Oper) (C:List Kn) (L:Env),(C.all fun k=>match k with | .is _=>true | _=>false)=true→Q (Qav ds N (ups L os C)) W→fin Q os (C.map (Kn.fact base)) (Qav ds N L) W
  | [],C,L,_,h=>by cases C <;> exact h
  | _::_,[],L,_,h=>h
  | o::os,k::C,L,ha,h=>by
    simp only [za9,Bool.and_eq_true] at ha
    intro v hv
    cases k with
    | new _ _=>simp at ha
    | is c =>
      obtain rfl:v=c:=hv
      rw [QgJ]
      exact Qk6 os C _ ha.2 h
theorem Qba {P : Program} {id:Nat} {Q:Exit→Act→World→Prop} {N:Nat} {L:Env} {w:World} {l:List Oper} (n:Nat) (S:List Src) (hm:P.follows .mixedOrders=true) (hok:ok l n N S=true)
    (h:∀ F:List Kn→Prop,(∀ C,(C.all fun k=>match k with | .is _=>true | _=>false)=true→(∀ W,Ext w W→WL P l.toArray Q (l.drop n) (Qav ds N (ups L (l.take n) C)) W)→F C)→steps P w.drew 0 N L F (l.take n) S []) :
    (zaD id l.toArray true).wp P Q (Qav ds N L) w:=by
  refine QcQ Ext n N S hm hok (Qc8 N L) Ext.refl Ext.trans fun F r0 hr hF=>?_
  rw [QbF] at hr
  subst hr
  have:=h (fun C=>(C.all fun k=>match k with | .is _=>true | _=>false)=true∧∀ W,Ext w W→WL P l.toArray Q (l.drop n) (Qav ds N (ups L (l.take n) C)) W) (fun C h1 h2=>⟨h1,h2⟩)
  exact Qez (F:=fun C=>(C.all fun k=>match k with | .is _=>true | _=>false)=true∧∀ W,Ext w W→WL P l.toArray Q (l.drop n) (Qav ds N (ups L (l.take n) C)) W) (G:=F)
    (fun C h=>hF.out fun W hR=>Qk6 (Q:=fun a W=>wpList P l.toArray Q (l.drop n) a W) _ _ _ h.1 (h.2 W (Rely.Ext.trans (Qan w) hR)).out) _ _ [] this
def fins (base : Nat) (Q:Env→World→Prop):List Oper→List Kn→List Nat→Env→World→Prop
  | o::os,.is c::C,acc,L,W=>fins base Q os C acc (up o.dst c L) W
  | o::os,.new cs T::C,acc,L,W=>∀ g,base≤g→W.heap[g]? = some (.cells cs T)→(∀ u∈acc,g≠u)→fins base Q os C (acc++[g]) (up o.dst (.pointer (some ⟨g,0,none⟩)) L) W
  | _,_,_,L,W=>Q L W
def Qfk : List Kn→Nat→List Nat
  | [],_=>[]
  | .is _::r,k=>Qfk r (k+1)
  | .new _ _::r,k=>k::Qfk r (k+1)
theorem Qfj : ∀ (C:List Kn) (k i:Nat),i∈Qfk C k→k≤i
  | [],_,_,h=>by cases h
  | .is _::r,k,i,h=>by have:=Qfj r (k+1) i h; omega
  | .new _ _::r,k,i,h=>by
    rcases zaL.1 h with h | h
    · omega
    · have:=Qfj r (k+1) i h; omega
theorem Qer (C0 : List Kn):∀ (C:List Kn) (k:Nat),(∀ j,C[j]? = C0[k+j]?)→∀ i∈Qfk C k,∃ cs T,C0[i]? = some (.new cs T)
  | [],_,_,_,h=>by cases h
  | .is _::r,k,hl,i,h=>Qer C0 r (k+1) (fun j=>by have:=hl (j+1); rw [zaf] at this; rw [this]; congr 1; omega) i h
  | .new cs T::r,k,hl,i,h=>by
    rcases zaL.1 h with h | h
    · subst h
      have:=hl 0
      exact ⟨cs,T,by simpa using this.symm⟩
    · exact Qer C0 r (k+1) (fun j=>by have:=hl (j+1); rw [zaf] at this; rw [this]; congr 1; omega) i h
theorem Qfr {Q : Act→World→Prop} {base N:Nat} {W:World} {D:List Nat}:∀ (os:List Oper) (C:List Kn) (k:Nat) (accN:List Nat) (L:Env),(∀ i,k≤i→(D.contains i=true↔i∈Qfk C k)) →
    fins base (fun L W=>Q (Qav ds N L) W) os C accN L W→finP Q D os (C.map (Kn.fact base)) k (accN.map fun g=>pp g 0) (Qav ds N L) W
  | [],C,_,_,L,_,h=>by cases C <;> exact h
  | _::_,[],_,_,L,_,h=>h
  | o::os,.is c::C,k,accN,L,hD,h=>by
    intro v hv _
    obtain rfl:v=c:=hv
    have hk:¬ D.contains k=true:=fun hh=>by
      have:=Qfj C (k+1) k ((hD k (qR _)).1 hh)
      omega
    rw [if_neg hk,QgJ]
    exact Qfr os C (k+1) accN _ (fun i hi=>hD i oo) h
  | o::os,.new cs T::C,k,accN,L,hD,h=>by
    intro v hv hne
    obtain ⟨g,rfl,h1,h2⟩:=hv
    have hk:D.contains k=true:=(hD k (qR _)).2 zad
    rw [if_pos hk,QgJ]
    have:=Qfr os C (k+1) (accN++[g]) _ (fun i hi=>⟨fun hh=>by
      rcases zaL.1 ((hD i oo).1 hh) with e | e
      · omega
      · exact e,fun hh=>(hD i oo).2 (zae _ hh)⟩) (h g h1 h2 fun u hu e=>hne hk _ (zaZ.2 ⟨u,hu,rfl⟩) (by rw [e]))
    rw [zba] at this
    exact this
end Auto
end
section
namespace Auto
open Go Go.RowKit
open Rely
variable {ds : List Deferred}
def cat : List (Array Value)→Array Value
  | []=>#[]
  | [a]=>a
  | a::b::r=>a++cat (b::r)
theorem Qal (a : Array Value) (r:List (Array Value)):cat (a::r)=a++cat r:=by
  cases r with
  | nil=>simp [cat]
  | cons b r=>rfl
theorem QaG : ∀ l r:List (Array Value),cat (l++r)=cat l++cat r
  | [],r=>by simp [cat]
  | a::l,r=>by rw [zbb,Qal,Qal,QaG l r,Array.append_assoc]
theorem Qap (pre mid post:List (Array Value)) (off:Nat) (h:(cat pre).size=off):∀ j v,(cat mid)[j]? = some v→(cat (pre++(mid++post)))[off+j]? = some v:=fun j v hv=>by
  subst h
  have hj:j<(cat mid).size:=(za0.1 hv).1
  rw [QaG,QaG,zbc oo,zbd,zbe hj]
  exact hv
theorem Qd8 (pre mid new post:List (Array Value)) (off:Nat) (h:(cat pre).size=off) (hs:(cat new).size=(cat mid).size):splice (cat (pre++(mid++post))) off (cat new).toList=cat (pre++(new++post)):=by
  subst h
  apply za6
  intro j
  rw [QiJ _ _ _ (by simp [QaG]; omega)]
  simp only [QaG,zaM]
  by_cases h1:(cat pre).size≤j
  · by_cases h2:j<(cat pre).size+(cat new).size
    · rw [if_pos ⟨h1,h2⟩,zbc h1,zbe oo]
      simp
    · rw [if_neg oo,zbc h1,zbc h1,zbc oo,zbc oo,hs]
  · rw [if_neg oo,zbe oo,zbe oo]
theorem QaQ : ∀ l:List (Array Value),(∀ a∈l,a.all (·.oneCell')=true)→(cat l).all (·.oneCell')=true
  | [],_=>by simp [cat]
  | a::r,h=>by
    rw [Qal,Array.all_append,h a zad,QaQ r fun b hb=>h b (zae _ hb)]
    rfl
def okPl (pl : Nat→Option (Nat×Nat)):Nat→List (Nat×Nat×Value×Array Value)→Prop
  | _,[]=>True
  | off,(i,n,v,p)::r=>pl i=some (off,n)∧v.cells=p∧p.size=n∧okPl pl (off+n) r
def tot : List (Nat×Nat×Value×Array Value)→Nat
  | []=>0
  | (_,n,_,_)::r=>n+tot r
theorem QcO : ∀ (l:List Value) (k off:Nat) (cs:Array Value),(l.zipIdx k).foldl (fun cs (x:Value×Nat)=>cs.setIfInBounds (off+x.2) x.1) cs=splice cs (off+k) l
  | [],_,_,_=>rfl
  | v::r,k,off,cs=>by
    rw [List.zipIdx_cons,zac,QcO r (k+1) off,splice]
    rfl
section
variable {P : Program} {Q : Exit → Act → World → Prop} {w : World} {N : Nat} {L : Env}
theorem cond_true {c : Operand} {x y:Code} (hc:Rely.look (envN N L) c=.bool true) (h:x.wp P Q (Qav ds N L) w):(zbf c x y).wp P Q (Qav ds N L) w:=wp_cond_true (by rw [QaZ]; exact hc) h
theorem cond_false {c : Operand} {x y:Code} (hc:Rely.look (envN N L) c=.bool false) (h:y.wp P Q (Qav ds N L) w):(zbf c x y).wp P Q (Qav ds N L) w:=wp_cond_false (by rw [QaZ]; exact hc) h
theorem Qay {c : Operand} {x y:Code} {t:Bool} (hc:Rely.look (envN N L) c=.bool t) (ht:t=true→x.wp P Q (Qav ds N L) w) (hf:t=false→y.wp P Q (Qav ds N L) w):(zbf c x y).wp P Q (Qav ds N L) w:=wp_cond_split (by rw [QaZ]; exact hc) ht hf
end
def Qdm (P : Program) (w:World) (N:Nat) (L:Env):ResultVar→Value→Prop
  | .tmp t,v=>envN N L t=v
  | .cell a t,v=>∃ A,envN N L a=.pointer (some A)∧(loadVar t A).run P w=.ok v w
theorem Qax {P : Program} {w:World} {N:Nat} {L:Env} {t:Tmp} {v:Value} (h:envN N L t=v):Qdm P w N L (.tmp t) v:=h
theorem QaJ {P : Program} {w:World} {N:Nat} {L:Env} {a:Tmp} {ty:TypeId} (g:Nat) (t:TypeId) (cs:Array Value) (hg:w.heap[g]? = some (.cells cs t)) (ha:envN N L a=pp g 0) (hu:aggD P ty=some true) (hi:(P.info? ty).map (·.size)=some cs.size) :
    Qdm P w N L (.cell a ty) (.agg cs):=by
  refine ⟨_,ha,?_⟩
  unfold aggD at hu
  cases hd:P.underlying ty with
  | none=>rw [hd] at hu; cases hu
  | some d =>
    rw [hd] at hu
    have hdd:aggB d=true:=Option.some.inj hu
    exact run_loadVar_row w g t ty cs (0,0) d hg hd (by cases d <;> first | rfl | cases hdd) hi
theorem QfO (ds : List Deferred) (N:Nat) (L:Env) (t:Nat):(Qav ds N L).tmps.getD t undef=envN N L t:=by rw [←QbF]; rfl
def Qmp (tmps : Array Value):ResultVar→Sem Value:=fun
    | .tmp t=>pure (tmps.getD t undef)
    | .cell a t=>do loadVar t (←asAddr (tmps.getD a undef))
theorem Qcs {P : Program} {w:World} {N:Nat} {L:Env} {r:ResultVar} {v:Value} (h:Qdm P w N L r v):(Qmp (Qav ds N L).tmps r).run P w=.ok v w:=by
  cases r with
  | tmp t =>
    have h':envN N L t=v:=h
    show (pure ((Qav ds N L).tmps.getD t undef):Sem Value).run P w=_
    rw [QfO ds,h']
    rfl
  | cell a t =>
    obtain ⟨A,h1,h2⟩:=h
    show (do loadVar t (←asAddr ((Qav ds N L).tmps.getD a undef)):Sem Value).run P w=_
    rw [QfO ds,h1]
    simp [asAddr,h2]
theorem Qd2 (fn : Func) (tmps:Array Value):results fn tmps=(do let vs ←fn.results.mapM (Qmp tmps); pure (if h:vs.size=1 then vs[0] else .tuple vs)):=rfl
section
variable {P : Program} {fn : Func} {R : Ending → World → Prop} {N : Nat} {L : Env} {w : World}
theorem QgB {r : ResultVar} {v:Value} (hr:fn.results=#[r]) (h:Qdm P w N L r v):(results fn (Qav ds N L).tmps).run P w=.ok v w:=by
  rw [Qd2,hr]
  simp [Qcs h]
theorem Qe3 {r s:ResultVar} {u v:Value} (hr:fn.results=#[r,s]) (h:Qdm P w N L r u) (k:Qdm P w N L s v):(results fn (Qav ds N L).tmps).run P w=.ok (.tuple #[u,v]) w:=by
  rw [Qd2,hr]
  simp [Qcs h,Qcs k,zaJ]
theorem Qe4 (hr : fn.results=#[]):(results fn (Qav ds N L).tmps).run P w=.ok (.tuple #[]) w:=by
  rw [Qd2,hr]
  simp
theorem ret1 {r : ResultVar} (v:Value) (hr:fn.results=#[r]) (h:Qdm P w N L r v) (k:R (.returned v) w):bodyPost P fn R .ret (Qav [] N L) w:=bodyPost_ret (QgB hr h) rfl k
theorem ret2 {r s:ResultVar} (u v:Value) (hr:fn.results=#[r,s]) (h:Qdm P w N L r u) (h2:Qdm P w N L s v) (k:R (.returned (.tuple #[u,v])) w):bodyPost P fn R .ret (Qav [] N L) w:=bodyPost_ret (Qe3 hr h h2) rfl k
theorem end0 (hr : fn.results=#[]) (k:R (.returned (.tuple #[])) w):bodyPost P fn R .normal (Qav [] N L) w:=bodyPost_end (Qe4 hr) rfl k
theorem ret0 (hr : fn.results=#[]) (k:R (.returned (.tuple #[])) w):bodyPost P fn R .ret (Qav [] N L) w:=bodyPost_ret (Qe4 hr) rfl k
end
theorem Qbh {P : Program} {w0:World} {base N:Nat} {L:Env} {F:List Kn→Prop} {ss:List Src} {C:List Kn} (h:F C):steps P w0 base N L F [] ss C:=by cases ss <;> exact h
theorem isz {P : Program} {ty:TypeId} {cs:Array Value} {n:Nat} (h:(P.info? ty).map (·.size)=some n) (hs:cs.size=n):(P.info? ty).map (·.size)=some cs.size:=by rw [h,hs]
theorem eqsz {a b:Array Value} {n:Nat} (ha:a.size=n) (hb:b.size=n):a.size=b.size:=ha.trans hb.symm
theorem QbG {P : Program} {ρ:Operand→Value} {o:Oper} {w:World} (ty:TypeId) (x y:Operand) (g off:Nat) (t:TypeId) (pre mid new post:List (Array Value)) (hg:w.heap[g]? = some (.cells (cat (pre++(mid++post))) t))
    (ho:o.op=.store ty x y) (hx:ρ x=pp g off) (hy:ρ y=.agg (cat new)) (hi:(P.info? ty).map (·.size)=some (cat new).size) (hp:(cat pre).size=off) (hs:(cat new).size=(cat mid).size) (h1:(cat new).all (·.oneCell')=true) :
    (execOp ρ o).run P w=.ok .skip (w.setRow g (cat (pre++(new++post)))):=by
  rw [←Qd8 pre mid new post off hp hs]
  refine Qf4 ty x y g off t _ _ hg ho hx hy hi ?_ h1
  simp only [QaG,qS,Nat.ble_eq]
  omega
end Auto
end
section
namespace Auto
open Go Go.RowKit
open Rely
variable {ds : List Deferred}
def isT (l : List Oper) (j:Nat):Bool:=match l[j]? with | some o=>o.dst.isNone | none=>false
def Qpk (l : List Oper) (M:Array Nat) (U:List Nat):Bool :=
  (zak l.length).all fun j=>!isT l j || ((zak l.length).all fun i=>i==j || (if isT l i then decide (j<i) || (M.getD j 0).testBit i else U.contains i || (M.getD j 0).testBit i))
def Qop (l : List Oper) (s:Src):Bool:=s.reads.all fun x=>match x.2 with | some _=>true | none=>l.all fun o=>o.dst != some x.1
def QmF (l : List Oper) (S:List Src):Bool :=
  (zak l.length).all fun j=>!isT l j || (match l[j]?,S[j]? with | some o,some s=>Qop l s&&s.guard.isNone&&(match o.op with | .select _ _=>false | _=>true)&&(o.op.operands.toList.all fun x=>match x with | .tmp t=>s.reads.any fun y=>zaR y.1 t | _=>true) | _,_=>false)
def okT (l : List Oper) (N:Nat) (S:List Src) (U:List Nat):Bool :=
  let M:=masks l #[]
  QcB l M 0 l S&&QdA N l&&Qdi 0 l&&Qpk l M U&&QmF l S&&U.all (fun j=>!isT l j)
def Qdz (P : Program) (Rd:World→Prop) (l:List Oper) (af:Act) (K:World→Prop):List Nat→World→Prop
  | [],W=>K W
  | j::r,W=>∃ o W',l[j]? = some o∧(execOp af.eval o).run P W=.ok .skip W'∧Rd W'∧Qdz P Rd l af K r W'
def Qdr (l : List Oper):List Nat:=(zak l.length).filter (isT l)
def QjO (P : Program) (Rd:World→Prop) (N:Nat) (L:Env) (C:List Kn) (o:Oper) (s:Src) (k:Kn):Prop :=
  seen C o s=true∧∃ c,k=.is c∧∀ W,Rd W→guarded s.guard (get (envS N L (C.map Kn.val) s.reads)) ((execOp (Rely.look (get (envS N L (C.map Kn.val) s.reads))) o).run P W=.ok (.value c) W) (undef=c)
def Qcn (P : Program) (Rd:World→Prop) (w0:World) (base:Nat) (N:Nat) (L:Env) (U:List Nat) (F:List Kn→Prop):List Oper→List Src→List Kn→Prop
  | o::os,s::ss,C=>∃ k:Kn,(o.dst.isNone=true→k=.is undef)∧(o.dst.isNone=false→if U.contains C.length=true then QjO P Rd N L C o s k else opOk P Ext w0 (envN N L) (C.map (Kn.fact base)) o s (k.fact base))∧Qcn P Rd w0 base N L U F os ss (C++[k])
  | _,_,C=>F C
section
variable {P : Program} {Rd : World → Prop} {w0 : World} {base N : Nat} {L : Env}
theorem Qe0 {U : List Nat} {F:List Kn→Prop}:∀ (os:List Oper) (ss:List Src) (C:List Kn),ss.length=os.length→Qcn P Rd w0 base N L U F os ss C →
    ∃ C':List Kn,C'.length=C.length+os.length∧(∀ i,i<C.length→C'[i]? = C[i]?)∧F C' ∧
      (∀ j o s,os[j]? = some o→ss[j]? = some s→∃ k,C'[C.length+j]? = some k∧(o.dst.isNone=true→k=.is undef)∧(o.dst.isNone=false→if U.contains (C.length+j)=true then QjO P Rd N L (C'.take (C.length+j)) o s k else opOk P Ext w0 (envN N L) ((C'.take (C.length+j)).map (Kn.fact base)) o s (k.fact base)))
  | [],[],C,_,h=>⟨C,by simp,fun _ _=>rfl,h,fun j o s h=>by simp at h⟩
  | [],_::_,_,hl,_=>by simp at hl
  | _::_,[],_,hl,_=>by simp at hl
  | o::os,s::ss,C,hl,⟨k,h1,h2,h3⟩=>by
    obtain ⟨C',hlen,hC,hF,hO⟩:=Qe0 os ss (C++[k]) (by simpa using hl) h3
    have hlen1:(C++[k]).length=C.length+1:=by simp
    have hC1:∀ i,i<C.length→C'[i]? = C[i]?:=fun i hi=>by
      rw [hC i oo,zbg hi]
    have htake:C'.take C.length=C:=by
      apply List.ext_getElem?
      intro i
      rw [zbh]
      by_cases hi:i<C.length
      · rw [if_pos hi,hC1 i hi]
      · rw [if_neg hi,za3 oo]
    refine ⟨C',by rw [hlen,hlen1,zaQ]; omega,hC1,hF,fun j oj sj hj hsj=>?_⟩
    cases j with
    | zero =>
      simp only [zan,Option.some.injEq] at hj hsj
      subst hj; subst hsj
      refine ⟨k,by rw [zao,hC C.length oo]; simp,h1,fun hd=>?_⟩
      rw [zao,htake]
      exact h2 hd
    | succ j =>
      obtain ⟨k',hk1,hk2,hk3⟩:=hO j oj sj (by simpa using hj) (by simpa using hsj)
      rw [hlen1] at hk1 hk3
      rw [show C.length+(j+1)=C.length+1+j by omega]
      exact ⟨k',hk1,hk2,hk3⟩
structure InvT (l : List Oper) (a0 : Act) (listed : Array Bool) (a : Act) (vs : Nat → Value) (C : List Kn) (U : List Nat) : Prop where
  size:listed.size=l.length
  closed:Qdb l.toArray listed
  defers:a.defers=a0.defers
  asize:a.tmps.size=a0.tmps.size
  vals:∀ i o d,listed.getD i false=true→l[i]? = some o→o.dst=some d→a.tmps[d]? = some (vs i)
  rest:∀ t,(∀ i o,listed.getD i false=true→l[i]? = some o→o.dst≠some t)→a.tmps[t]? = a0.tmps[t]?
  cst:∀ i c,C[i]? = some (.is c)→(listed.getD i false=true∨U.contains i=true∨isT l i=true)→vs i=c
def rem (l : List Oper) (listed:Array Bool):List Nat:=(Qdr l).filter fun j=>!listed.getD j true
def QpL (P : Program) (Rd:World→Prop) (l:List Oper) (w0:World) (base:Nat) (a0:Act) (listed:Array Bool) (W:World) (vs:Nat→Value) (C:List Kn) (U D:List Nat) (Q:Exit→Act→World→Prop):Prop :=
  ((∀ i,isT l i=true→listed.getD i false=false)∧Ext w0 W∧(∀ i k,C[i]? = some k→listed.getD i false=true→k.fact base (vs i) W)∧QnM D l.length listed vs) ∨
  ((∀ i,i<l.length→isT l i=false→U.contains i=false→listed.getD i false=true)∧Rd W∧Qdz P Rd l (QaW l vs 0 a0) (fun W'=>Q .normal (QaW l vs 0 a0) W') (rem l listed) W)
end
theorem QdX {l : List Oper} {j:Nat} {o:Oper} (h:l[j]? = some o):isT l j=o.dst.isNone:=by simp [isT,h]
theorem QgU {l : List Oper} {j:Nat}:j∈Qdr l↔isT l j=true:=by
  unfold Qdr
  rw [zbi,zas]
  constructor
  · exact fun h=>h.2
  · intro h
    refine ⟨?_,h⟩
    cases hx:l[j]? with
    | none=>simp [isT,hx] at h
    | some o=>exact (za7.1 hx).1
theorem Qgp {l : List Oper} {listed:Array Bool} {j:Nat}:j∈rem l listed↔isT l j=true∧listed.getD j true=false:=by
  unfold rem
  rw [zbi,QgU]
  simp
theorem QiS (l : List Oper) (listed:Array Bool):(rem l listed).Pairwise (· < ·):=(List.pairwise_lt_range.filter _).filter _
theorem QjG {l : List Oper} {listed:Array Bool} {j:Nat} (hj:j<listed.size):rem l (listed.setIfInBounds j true)=(rem l listed).filter fun i=>i != j:=by
  unfold rem
  rw [List.filter_filter]
  apply List.filter_congr
  intro i hi
  by_cases hij:i=j
  · subst hij
    simp [zav hj]
  · rw [getD_set_ne true (Ne.symm hij)]
    simp [hij]
theorem Qk7 {j : Nat} {r:List Nat} (h:(j::r).Pairwise (· < ·)):(j::r).filter (fun i=>i != j)=r:=by
  rw [List.filter_cons]
  simp only [bne_self_eq_false,Bool.false_eq_true,if_false]
  rw [zbj]
  intro i hi
  have:=(zbk.1 h).1 i hi
  simp
  omega
theorem Qkz {N : Nat} {L:Env} {base:Nat} {C:List Kn} {ρ:Tmp→Value} {W:World}:∀ (r:List (Tmp×Option Nat)),(r.all fun x=>match x.2 with | some i=>(match C[i]? with | some (.is _)=>true | _=>false) | none=>true)=true →
    (∀ t,(t,none)∈r→ρ t=envN N L t)→(∀ t i c,(t,some i)∈r→C[i]? = some (.is c)→ρ t=c)→Qcz (envN N L) (C.map (Kn.fact base)) ρ W r
  | [],_,_,_=>trivial
  | (t,none)::r,ha,h1,h2=>by
    simp only [za9,Bool.and_eq_true] at ha
    exact ⟨h1 t zad,Qkz r ha.2 (fun t ht=>h1 t (zae _ ht)) fun t i c ht=>h2 t i c (zae _ ht)⟩
  | (t,some i)::r,ha,h1,h2=>by
    simp only [za9,Bool.and_eq_true] at ha
    refine ⟨?_,Qkz r ha.2 (fun t ht=>h1 t (zae _ ht)) fun t i c ht=>h2 t i c (zae _ ht)⟩
    have h3:=ha.1
    cases hc:C[i]? with
    | none=>simp [hc] at h3
    | some k =>
      cases k with
      | new _ _=>simp [hc] at h3
      | is c =>
        simp only [zaF,zaX,hc,zaY,zaC,Kn.fact]
        exact h2 t i c zad hc
section
variable {P : Program} {Rd : World → Prop} {w0 : World} {base N : Nat} {L : Env}
theorem QiB {l : List Oper} {S:List Src} {C:List Kn} {U D:List Nat} {Q:Exit→Act→World→Prop} (hD:Qeg l D=true) (hDC:∀ j∈D,∃ cs T,C[j]? = some (.new cs T)) (hok:okT l N S U=true)
    (hC:C.length=l.length) (hRd:∀ W,Ext w0 W→Rd W)
    (hop:∀ j o s,l[j]? = some o→S[j]? = some s→∃ k,C[j]? = some k∧(o.dst.isNone=true→k=.is undef)∧(o.dst.isNone=false→if U.contains j=true then QjO P Rd N L (C.take j) o s k else opOk P Ext w0 (envN N L) ((C.take j).map (Kn.fact base)) o s (k.fact base)))
    (hfin:∀ W,Ext w0 W→finP (fun af W=>Qdz P Rd l af (fun W'=>Q .normal af W') (Qdr l) W) D l (C.map (Kn.fact base)) 0 [] (Qav ds N L) W) :
    ∀ (fuel:Nat) (listed:Array Bool) (a:Act) (W:World) (vs:Nat→Value),InvT l (Qav ds N L) listed a vs C U→QpL P Rd l w0 base (Qav ds N L) listed W vs C U D Q→fuel=left l.toArray listed→wpAny P .any l.toArray Q fuel listed a W:=by
  simp only [okT,Bool.and_eq_true] at hok
  obtain ⟨⟨⟨⟨⟨hsrc,hdst⟩,hedge⟩,htail⟩,hst⟩,hUT⟩:=hok
  have hN:(Qav ds N L).tmps.size=N:=Qc8 N L
  have hanc:∀ j i,((masks l #[]).getD j 0).testBit i=true→Anc l.toArray i j:=QcD l.toArray l #[] (fun j=>by simp) (fun j i h=>by simp at h)
  have hsl:S.length=l.length:=Qga l S 0 hsrc
  have frame:∀ (listed:Array Bool) (a:Act) (vs:Nat→Value),InvT l (Qav ds N L) listed a vs C U→(∀ i,i<l.length→listed.getD i true=true)→QaW l vs 0 (Qav ds N L)=a:=by
    intro listed a vs inv hall
    have hall':∀ i,i<l.length→listed.getD i false=true:=fun i hi=>by
      cases hx:listed.getD i false with
      | true=>rfl
      | false=>have:=getD_in (by have:=inv.size; omega) hx; rw [hall i hi] at this; cases this
    have hsz:=Qck l vs 0 (Qav ds N L)
    have ht:(QaW l vs 0 (Qav ds N L)).tmps=a.tmps:=by
      refine za6 fun t=>?_
      by_cases hw:∃ (i:Nat) (o:Oper),l[i]? = some o∧o.dst=some t
      · obtain ⟨i,o,hi,ho⟩:=hw
        have hin:i<l.length:=(za7.1 hi).1
        rw [QbV l vs 0 (Qav ds N L) t i o hdst hN hi ho,za5]
        exact (inv.vals i o t (hall' i hin) hi ho).symm
      · rw [QbI l vs 0 (Qav ds N L) t (fun o ho he=>by
          obtain ⟨i,hi⟩:=za8.1 ho
          exact hw ⟨i,o,hi,he⟩)]
        refine (inv.rest t fun i o _ hi he=>hw ⟨i,o,hi,he⟩).symm
    have hd:=hsz.2.trans inv.defers.symm
    generalize QaW l vs 0 (Qav ds N L)=b at *
    cases a; cases b
    simp_all
  -- the stores begin
  have begin_:∀ (listed:Array Bool) (a:Act) (W:World) (vs:Nat→Value),InvT l (Qav ds N L) listed a vs C U→(∀ i,isT l i=true→listed.getD i false=false)→Ext w0 W→(∀ i k,C[i]? = some k→listed.getD i false=true→k.fact base (vs i) W)→QnM D l.length listed vs →
      (∀ i,i<l.length→isT l i=false→U.contains i=false→listed.getD i false=true)→Qdz P Rd l (QaW l vs 0 (Qav ds N L)) (fun W'=>Q .normal (QaW l vs 0 (Qav ds N L)) W') (rem l listed) W:=by
    intro listed a W vs inv hT hR hf hp hall
    have hrem:rem l listed=Qdr l:=by
      unfold rem
      rw [zbj]
      intro i hi
      have h1:=QgU.1 hi
      have h2:=hT i h1
      have hil:i<l.length:=by
        cases hx:l[i]? with
        | none=>simp [isT,hx] at h1
        | some o=>exact (za7.1 hx).1
      rw [getD_in (by have:=inv.size; omega) h2]
      rfl
    rw [hrem]
    have hDl:∀ i,i∈D→listed.getD i false=true:=fun i hi=>by
      obtain ⟨cs,T,hc⟩:=hDC i hi
      have hil:i<l.length:=by rw [←hC]; exact (za7.1 hc).1
      obtain ⟨o,ho⟩:∃ o,l[i]? = some o:=⟨l[i],by simp [hil]⟩
      obtain ⟨s,hs⟩:∃ s,S[i]? = some s:=⟨S[i]'oo,by simp [show i<S.length by omega]⟩
      obtain ⟨k,hk,hk1,hk2⟩:=hop i o s ho hs
      obtain rfl:k=.new cs T:=Option.some.inj (hk.symm.trans hc)
      refine hall i hil ?_ ?_
      · rw [QdX ho]
        cases hx:o.dst.isNone with
        | false=>rfl
        | true=>exact absurd (hk1 hx) (fun e=>by cases e)
      · cases hx:U.contains i with
        | false=>rfl
        | true =>
          have hdn:o.dst.isNone=false:=by
            cases hy:o.dst.isNone with
            | false=>rfl
            | true=>exact absurd (hk1 hy) (fun e=>by cases e)
          have:=hk2 hdn
          rw [if_pos hx] at this
          obtain ⟨_,c,hc',_⟩:=this
          cases hc'
    refine Qiy (D:=D) l (C.map (Kn.fact base)) (Qav ds N L) vs 0 [] (hfin W hR) (by simp [hC]) (fun i hi=>?_) (fun u hu=>by cases hu) (fun i k hi hk hin hkn hne=>hp i k hi hk (hDl i hi) (hDl k hk) oo oo hne)
    rw [za5]
    obtain ⟨k,hk⟩:∃ k,C[i]? = some k:=⟨C[i]'oo,by simp [show i<C.length by omega]⟩
    have e1:(C.map (Kn.fact base)).getD i (fun _ _=>True)=k.fact base:=by simp [hk]
    rw [e1]
    by_cases hli:listed.getD i false=true
    · exact hf i k hk hli
    · obtain ⟨o,ho⟩:∃ o,l[i]? = some o:=⟨l[i],by simp [hi]⟩
      obtain ⟨s,hs⟩:∃ s,S[i]? = some s:=⟨S[i]'oo,by simp [show i<S.length by omega]⟩
      obtain ⟨k',hk',hk1,hk2⟩:=hop i o s ho hs
      obtain rfl:k'=k:=Option.some.inj (hk'.symm.trans hk)
      cases hx:o.dst.isNone with
      | true =>
        have hkk:=hk1 hx
        rw [hkk]
        exact inv.cst i undef (hkk▸hk) (.inr (.inr (by rw [QdX ho]; exact hx)))
      | false =>
        have hiU:U.contains i=true:=by
          cases hy:U.contains i with
          | true=>rfl
          | false=>exact absurd (hall i hi (by rw [QdX ho]; exact hx) hy) hli
        have:=hk2 hx
        rw [if_pos hiU] at this
        obtain ⟨_,c,hc',_⟩:=this
        rw [hc']
        exact inv.cst i c (hc'▸hk) (.inr (.inl hiU))
  intro fuel
  induction fuel with
  | zero =>
    intro listed a W vs inv ph hf
    have hall:∀ i,i<l.length→listed.getD i true=true:=fun i hi=>by
      cases hx:listed.getD i true with
      | true=>rfl
      | false =>
        have:=QeM (ops:=l.toArray) (by simpa using hi) hx
        omega
    refine ⟨?_,?_⟩
    · cases hr:zaj .any l.toArray listed with
      | nil=>rfl
      | cons x xs =>
        obtain ⟨hu,o,ho,_⟩:=mem_ready.1 (show x∈zaj .any l.toArray listed by rw [hr]; exact zad)
        have hxl:x<l.length:=by have:=(za0.1 ho).1; simpa using this
        rw [hall x hxl] at hu
        cases hu
    · have hrem:rem l listed=[]:=by
        rw [List.eq_nil_iff_forall_not_mem]
        intro j hj
        obtain ⟨h1,h2⟩:=Qgp.1 hj
        have hjl:j<l.length:=by
          cases hx:l[j]? with
          | none=>simp [isT,hx] at h1
          | some o=>exact (za7.1 hx).1
        rw [hall j hjl] at h2
        cases h2
      have ht:Qdz P Rd l (QaW l vs 0 (Qav ds N L)) (fun W'=>Q .normal (QaW l vs 0 (Qav ds N L)) W') (rem l listed) W:=by
        rcases ph with ⟨h1,h2,h3,h4⟩ | ⟨_,_,h2⟩
        · refine begin_ listed a W vs inv h1 h2 h3 h4 fun i hi _ _=>?_
          cases hx:listed.getD i false with
          | true=>rfl
          | false=>have:=getD_in (by have:=inv.size; omega) hx; rw [hall i hi] at this; cases this
        · exact h2
      rw [hrem,frame listed a vs inv hall] at ht
      exact ht
  | succ fuel ih =>
    intro listed a W vs inv ph hf
    have hs:listed.size=l.length:=inv.size
    refine ⟨fun hr=>?_,fun j hj=>?_⟩
    · exfalso
      by_cases hA:∀ i,i<l.length→listed.getD i true=true
      · have:left l.toArray listed=0:=by
          unfold left
          rw [List.countP_eq_zero]
          intro i hi
          have:=hA i (by simpa using zas.1 hi)
          simp only [this,Bool.not_true,Bool.false_eq_true,not_false_iff]
        omega
      · obtain ⟨i0,hi0,hu0⟩:∃ i,i<l.length∧listed.getD i true=false:=by
          refine Classical.byContradiction fun hc=>hA fun i hi=>?_
          cases hx:listed.getD i true with
          | true=>rfl
          | false=>exact absurd ⟨i,hi,hx⟩ hc
        obtain ⟨j,hj⟩:=QbT hedge (listed:=listed) i0 hi0 hu0
        rw [hr] at hj; cases hj
    · obtain ⟨hju,oj,hoj,_⟩:=mem_ready.1 hj
      have hoj':l[j]? = some oj:=by simpa using hoj
      have hjl:j<l.length:=(za7.1 hoj').1
      have hjs:j<listed.size:=by omega
      have hnl:¬ listed.getD j false=true:=fun h=>by rw [QaU h] at hju; cases hju
      obtain ⟨s,hsj,hso⟩:=QdQ l S 0 hsrc j oj hoj'
      rw [za5] at hso
      simp only [Qhp,Bool.and_eq_true] at hso
      obtain ⟨hg,hrd⟩:=hso
      have hg':QcT l.toArray oj=some s.guard:=by simpa using hg
      have readS:∀ t i,(t,some i)∈s.reads→i<j∧listed.getD i false=true∧∃ oi,l[i]? = some oi∧oi.dst=some t:=fun t i hti=>by
        have h1:=zap.1 hrd (t,some i) hti
        simp only [QcW,Bool.and_eq_true,decide_eq_true_eq,beq_iff_eq] at h1
        obtain ⟨⟨hij,hbit⟩,hdi⟩:=h1
        refine ⟨hij,Qbt inv.closed hj (hanc j i hbit),?_⟩
        cases hx:l[i]? with
        | none=>rw [hx] at hdi; cases hdi
        | some oi=>rw [hx] at hdi; exact ⟨oi,rfl,hdi⟩
      have readN:∀ t,(t,none)∈s.reads→a.tmps[t]? = (Qav ds N L).tmps[t]?:=fun t htn=>inv.rest t fun i o hli hio hd=>by
        have h1:=zap.1 hrd (t,none) htn
        simp only [QcW] at h1
        have h3:=zap.1 h1 (o,i) (by
          rw [za8]
          refine ⟨i,?_⟩
          rw [zaA]
          simp [hio])
        simp only [hd,bne_self_eq_false,Bool.false_or,Bool.or_eq_true,beq_iff_eq] at h3
        have hlj:listed.getD j false=true:=by
          rcases h3 with h3 | h3
          · exact inv.closed.anc (hanc i j h3) hli
          · rw [←h3]; exact hli
        exact hnl hlj
      have slotS:∀ t i,(t,some i)∈s.reads→slots a t=vs i:=fun t i hti=>by
        obtain ⟨_,hli,oi,hoi,hdi⟩:=readS t i hti
        have hv:=inv.vals i oi t hli hoi hdi
        simp only [slots,zaB,hv,zaC]
      have slotN:∀ t,(t,none)∈s.reads→slots a t=envN N L t:=fun t htn=>by
        rw [←QbF (ds:=ds)]
        simp only [slots,zaB,readN t htn]
      have hlist:∀ i,(listed.setIfInBounds j true).getD i false=true→i=j∨listed.getD i false=true:=fun i hi=>by
        by_cases hij:j=i
        · exact .inl hij.symm
        · rw [getD_set_ne false hij] at hi; exact .inr hi
      obtain ⟨k,hk,hk1,hk2⟩:=hop j oj s hoj' hsj
      cases hdn:oj.dst.isNone with
      | true =>
        have hTj:isT l j=true:=by rw [QdX hoj']; exact hdn
        have hdnone:oj.dst=none:=by simpa using hdn
        have htj:=zap.1 htail j (zas.2 hjl)
        simp only [hTj,Bool.not_true,Bool.false_or] at htj
        have hall:∀ i,i<l.length→isT l i=false→U.contains i=false→listed.getD i false=true:=fun i hi h1 h2=>by
          have h3:=zap.1 htj i (zas.2 hi)
          simp only [Bool.or_eq_true,beq_iff_eq] at h3
          rcases h3 with h3 | h3
          · rw [h3,hTj] at h1; cases h1
          · rw [h1] at h3
            simp only [Bool.false_eq_true,if_false,h2,Bool.false_or] at h3
            exact Qbt inv.closed hj (hanc j i h3)
        have hrun:Qdz P Rd l (QaW l vs 0 (Qav ds N L)) (fun W'=>Q .normal (QaW l vs 0 (Qav ds N L)) W') (rem l listed) W:=by
          rcases ph with ⟨h1,h2,h3,h4⟩ | ⟨_,_,h2⟩
          · exact begin_ listed a W vs inv h1 h2 h3 h4 hall
          · exact h2
        have hjr:j∈rem l listed:=Qgp.2 ⟨hTj,hju⟩
        have hsorted:=QiS l listed
        have hset:=QjG (l:=l) (listed:=listed) hjs
        cases hr:rem l listed with
        | nil=>rw [hr] at hjr; cases hjr
        | cons h r =>
          rw [hr] at hrun hjr hsorted hset
          have hhj:h=j:=by
            rcases zaL.1 hjr with e | e
            · exact e.symm
            · exfalso
              have hlt:=(zbk.1 hsorted).1 j e
              obtain ⟨hTh,hlh⟩:=Qgp.1 (show h∈rem l listed by rw [hr]; exact zad)
              have h3:=zap.1 htj h (zas.2 oo)
              simp only [Bool.or_eq_true,beq_iff_eq,hTh,if_true,decide_eq_true_eq] at h3
              rcases h3 with h3 | h3 | h3
              · omega
              · omega
              · have:=Qbt inv.closed hj (hanc j h h3)
                rw [QaU this] at hlh
                cases hlh
          subst hhj
          rw [Qk7 hsorted] at hset
          obtain ⟨o',W',ho',hrunj,hrdj,hrest⟩:=hrun
          obtain rfl:o'=oj:=Option.some.inj (ho'.symm.trans hoj')
          have hstj:=zap.1 hst h (zas.2 hjl)
          simp only [hTj,Bool.not_true,Bool.false_or,hoj',hsj,Bool.and_eq_true] at hstj
          obtain ⟨⟨⟨hs1,hs2⟩,hs3⟩,hs4⟩:=hstj
          have hcong:execOp a.eval o'=execOp (QaW l vs 0 (Qav ds N L)).eval o':=by
            refine execOp_congr o' (fun cs b hc=>by rw [hc] at hs3; cases hs3) fun x hx=>?_
            cases x with
            | tmp t =>
              have h5:=zap.1 hs4 (.tmp t) (zah.2 hx)
              obtain ⟨⟨t',si⟩,hm,hb⟩:=List.any_eq_true.1 h5
              have ht':t'=t:=zaU hb
              subst ht'
              show a.tmps.getD t' undef=(QaW l vs 0 (Qav ds N L)).tmps.getD t' undef
              cases si with
              | none =>
                have h6:=zap.1 hs1 (t',none) hm
                rw [zaB,zaB,readN t' hm,QbI l vs 0 (Qav ds N L) t' fun o ho he=>by
                  have:=zap.1 h6 o ho
                  rw [he] at this
                  simp at this]
              | some i =>
                obtain ⟨_,hli,oi,hoi,hdi⟩:=readS t' i hm
                rw [zaB,zaB,inv.vals i oi t' hli hoi hdi,QbV l vs 0 (Qav ds N L) t' i oi hdst hN hoi hdi,za5]
            | const v=>rfl
            | global g=>rfl
            | func f=>rfl
          refine QbX hoj ?_
          have hgn:s.guard=none:=by simpa using hs2
          rw [QbQ hg',hgn]
          simp only [gOk,if_true]
          unfold Oper.wp
          rw [hcong,hrunj]
          show wpAny P .any l.toArray Q fuel (listed.setIfInBounds h true) (a.put o'.dst undef) W'
          rw [hdnone]
          refine ih _ a W' vs ⟨by simp [inv.size],inv.closed.set hj,inv.defers,inv.asize,fun i o d hi hio hd=>?_,fun t ht=>?_,fun i c hc hi=>?_⟩ (.inr ⟨fun i hi h1 h2=>getD_set_true (hall i hi h1 h2),hrdj,?_⟩) ?_
          · rcases hlist i hi with e | e
            · subst e
              obtain rfl:o=o':=Option.some.inj (hio.symm.trans hoj')
              rw [hdnone] at hd; cases hd
            · exact inv.vals i o d e hio hd
          · exact inv.rest t fun i o hi hio=>ht i o (getD_set_true hi) hio
          · refine inv.cst i c hc ?_
            rcases hi with hi | hi
            · rcases hlist i hi with e | e
              · exact .inr (.inr (e▸hTj))
              · exact .inl e
            · exact .inr hi
          · rw [hset]; exact hrest
          · have:=Qd4 (ops:=l.toArray) hju (by rw [za4]; exact inv.size)
            omega
      | false =>
        have hTj:isT l j=false:=by rw [QdX hoj']; exact hdn
        have hkk:=hk2 hdn
        have hrem':rem l (listed.setIfInBounds j true)=rem l listed:=by
          rw [QjG hjs,zbj]
          intro i hi
          have:=(Qgp.1 hi).1
          simp only [bne_iff_ne,ne_eq]
          intro e
          rw [e,hTj] at this
          cases this
        have htl:∀ {P:Nat→Prop},(∀ i,isT l i=true→listed.getD i false=false)→∀ i,isT l i=true→(listed.setIfInBounds j true).getD i false=false:=fun h i hi=>by
          have hij:j≠i:=fun e=>by rw [e,hi] at hTj; cases hTj
          rw [getD_set_ne false hij]
          exact h i hi
        cases hU:U.contains j with
        | true =>
          rw [if_pos hU] at hkk
          obtain ⟨hseen,c,rfl,hrun⟩:=hkk
          have hseen':=hseen
          simp only [seen,Bool.and_eq_true] at hseen'
          have htk:∀ i,i<j→(C.take j)[i]? = C[i]?:=fun i hi=>by rw [zbh,if_pos hi]
          have hh:Qcz (envN N L) ((C.take j).map (Kn.fact base)) (slots a) W s.reads:=Qkz s.reads hseen'.1.1.2 slotN fun t i c hti hc=>by
            obtain ⟨hij,hli,_⟩:=readS t i hti
            rw [htk i hij] at hc
            rw [slotS t i hti]
            exact inv.cst i c hc (.inl hli)
          have hvj:vs j=c:=inv.cst j c hk (.inr (.inl hU))
          have hrdW:Rd W:=by
            rcases ph with ⟨_,h2,_,_⟩ | ⟨_,h2,_⟩
            · exact hRd W h2
            · exact h2
          have hr:=hrun W hrdW
          rw [←Qcr hseen hh,←QcU hseen hh,←Qec] at hr
          have next:wpAny P .any l.toArray Q fuel (listed.setIfInBounds j true) (a.put oj.dst c) W:=by
            refine ih _ _ W vs ⟨by simp [inv.size],inv.closed.set hj,(put_defers _ _ _).trans inv.defers,(Qdd _ _ _).trans inv.asize,fun i o d hi hio hd=>?_,fun t ht=>?_,fun i c' hc hi=>?_⟩ ?_ ?_
            · by_cases hij:i=j
              · subst hij
                obtain rfl:o=oj:=Option.some.inj (hio.symm.trans hoj')
                rw [hd,Qc9 _ _ _ (by rw [inv.asize,hN]; exact Qex l hdst i o d hoj' hd),hvj]
              · rcases hlist i hi with e | e
                · exact absurd e hij
                · rw [QbB _ _ _ _ (Qew l hdst i j o oj d hio hoj' hij hd)]
                  exact inv.vals i o d e hio hd
            · rw [QbB _ _ _ _ (ht j oj (by simp [zav hjs]) hoj')]
              exact inv.rest t fun i o hi hio=>ht i o (getD_set_true hi) hio
            · refine inv.cst i c' hc ?_
              rcases hi with hi | hi
              · rcases hlist i hi with e | e
                · exact .inr (.inl (e▸hU))
                · exact .inl e
              · exact .inr hi
            · rcases ph with ⟨h1,h2,h3,h4⟩ | ⟨h1,h1r,h2⟩
              · refine .inl ⟨htl (P:=fun _=>True) h1,h2,fun i k' hk' hi=>?_,fun i k' hi hk' hli hlk hin hkn hne=>?_⟩
                · rcases hlist i hi with e | e
                  · subst e
                    obtain rfl:k'=.is c:=Option.some.inj (hk'.symm.trans hk)
                    exact hvj
                  · exact h3 i k' hk' e
                · have nj:∀ i,i∈D→i≠j:=fun i hi e=>by
                    obtain ⟨cs,T,hc⟩:=hDC i hi
                    rw [e,hk] at hc
                    cases hc
                  exact h4 i k' hi hk' ((hlist i hli).resolve_left (nj i hi)) ((hlist k' hlk).resolve_left (nj k' hk')) hin hkn hne
              · refine .inr ⟨fun i hi e1 e2=>getD_set_true (h1 i hi e1 e2),h1r,?_⟩
                rw [hrem']
                exact h2
            · have:=Qd4 (ops:=l.toArray) hju (by rw [za4]; exact inv.size)
              omega
          refine QbX hoj ?_
          rw [QbQ hg']
          by_cases hb:gOk s.guard (slots a)=true
          · rw [if_pos hb]
            have hr':(execOp a.eval oj).run P W=.ok (.value c) W:=by
              cases hgd':s.guard with
              | none=>rw [hgd'] at hr; exact hr
              | some db =>
                rw [hgd'] at hr hb
                exact (if_pos hb).mp hr
            unfold Oper.wp
            rw [hr']
            exact next
          · rw [if_neg hb]
            have hc':undef=c:=by
              cases hgd':s.guard with
              | none=>rw [hgd'] at hb; exact absurd rfl hb
              | some db =>
                rw [hgd'] at hr hb
                exact (if_neg hb).mp hr
            rw [hc']
            exact next
        | false =>
          rw [if_neg (by rw [hU]; decide)] at hkk
          obtain ⟨h1,h2,h3,h4⟩:(∀ i,isT l i=true→listed.getD i false=false)∧Ext w0 W∧(∀ i k,C[i]? = some k→listed.getD i false=true→k.fact base (vs i) W)∧QnM D l.length listed vs:=by
            rcases ph with h | ⟨h1,_⟩
            · exact h
            · exact absurd (h1 j hjl hTj hU) hnl
          have holds:∀ (r:List (Tmp×Option Nat)),(∀ x∈r,x∈s.reads)→Qcz (envN N L) ((C.take j).map (Kn.fact base)) (slots a) W r:=by
            intro r
            induction r with
            | nil=>intro _; trivial
            | cons x r ihr =>
              intro hr
              obtain ⟨t,si⟩:=x
              have hm:=hr _ zad
              cases si with
              | none=>exact ⟨slotN t hm,ihr fun x hx=>hr x (zae _ hx)⟩
              | some i =>
                refine ⟨?_,ihr fun x hx=>hr x (zae _ hx)⟩
                obtain ⟨hij,hli,_⟩:=readS t i hm
                rw [slotS t i hm]
                obtain ⟨ki,hki⟩:∃ ki,C[i]? = some ki:=⟨C[i]'oo,by simp [show i<C.length by omega]⟩
                have e1:((C.take j).map (Kn.fact base)).getD i (fun _ _=>True)=ki.fact base:=by
                  simp [hij,hki]
                rw [e1]
                exact h3 i ki hki hli
          have hopj:=hkk (slots a) W h2 (holds s.reads fun _ h=>h)
          have next:∀ v W',Ext W W'→(k.fact base v W'∧(j∈D→v=pp W.heap.size 0))→wpAny P .any l.toArray Q fuel (listed.setIfInBounds j true) (a.put oj.dst v) W':=by
            intro v W' hR ⟨hφ,hfresh⟩
            refine ih _ _ W' (fun i=>if i=j then v else vs i) ⟨by simp [inv.size],inv.closed.set hj,(put_defers _ _ _).trans inv.defers,(Qdd _ _ _).trans inv.asize,fun i o d hi hio hd=>?_,fun t ht=>?_,fun i c' hc hi=>?_⟩ (.inl ⟨htl (P:=fun _=>True) h1,Rely.Ext.trans h2 hR,fun i k' hk' hi=>?_,fun i k' hi hk' hli hlk hin hkn hne=>?_⟩) ?_
            · by_cases hij:i=j
              · subst hij
                obtain rfl:o=oj:=Option.some.inj (hio.symm.trans hoj')
                rw [hd,Qc9 _ _ _ (by rw [inv.asize,hN]; exact Qex l hdst i o d hoj' hd)]
                simp
              · simp only [hij,if_false]
                rcases hlist i hi with e | e
                · exact absurd e hij
                · rw [QbB _ _ _ _ (Qew l hdst i j o oj d hio hoj' hij hd)]
                  exact inv.vals i o d e hio hd
            · rw [QbB _ _ _ _ (ht j oj (by simp [zav hjs]) hoj')]
              exact inv.rest t fun i o hi hio=>ht i o (getD_set_true hi) hio
            · by_cases hij:i=j
              · subst hij
                obtain rfl:k=.is c':=Option.some.inj (hk.symm.trans hc)
                have hv:v=c':=hφ
                simpa using hv
              · simp only [hij,if_false]
                refine inv.cst i c' hc ?_
                rcases hi with hi | hi
                · exact .inl ((hlist i hi).resolve_left hij)
                · exact .inr hi
            · by_cases hij:i=j
              · subst hij
                obtain rfl:k'=k:=Option.some.inj (hk'.symm.trans hk)
                simpa using hφ
              · simp only [hij,if_false]
                exact Kn.stable base k' _ _ _ hR (h3 i k' hk' ((hlist i hi).resolve_left hij))
            · have old:∀ m,m∈D→listed.getD m false=true→j∈D→vs m≠v:=fun m hm hl hjD he=>by
                obtain ⟨cs,T,hc⟩:=hDC m hm
                obtain ⟨g,hg1,_,hg2⟩:=h3 m _ hc hl
                rw [hg1,hfresh hjD] at he
                simp only [Value.pointer.injEq,Option.some.injEq,Addr.mk.injEq,and_true] at he
                have:=Qaq hg2
                omega
              by_cases hij:i=j
              · by_cases hkj:k'=j
                · exact absurd (hij.trans hkj.symm) hne
                · simp only [hij,hkj,if_true,if_false]
                  exact (old k' hk' ((hlist k' hlk).resolve_left hkj) (hij▸hi)).symm
              · by_cases hkj:k'=j
                · simp only [hij,hkj,if_true,if_false]
                  exact old i hi ((hlist i hli).resolve_left hij) (hkj▸hk')
                · simp only [hij,hkj,if_false]
                  exact h4 i k' hi hk' ((hlist i hli).resolve_left hij) ((hlist k' hlk).resolve_left hkj) hin hkn hne
            · have:=Qd4 (ops:=l.toArray) hju (by rw [za4]; exact inv.size)
              omega
          refine QbX hoj ?_
          rw [QbQ hg']
          by_cases hb:gOk s.guard (slots a)=true
          · rw [if_pos hb]
            refine Qfe (R:=Ext) (W:=W) (φ:=fun v W'=>k.fact base v W'∧(j∈D→v=pp W.heap.size 0)) (fun {_ _ _} h1 h2=>Rely.Ext.trans h1 h2) ?_ next
            cases hgd':s.guard with
            | none=>rw [hgd'] at hopj; exact Qe5 hD hoj' hopj
            | some db =>
              rw [hgd'] at hopj hb
              exact Qe5 hD hoj' ((if_pos hb).mp hopj)
          · rw [if_neg hb]
            refine next undef W (Ext.refl W) ⟨?_,fun hjD=>absurd (noguard hD hjD hoj' hg') (fun e=>hb (by rw [e]; rfl))⟩
            cases hgd':s.guard with
            | none=>rw [hgd'] at hb; exact absurd rfl hb
            | some db =>
              rw [hgd'] at hopj hb
              exact (if_neg hb).mp hopj
end
section
variable {P : Program} {Rd : World → Prop} {w0 : World} {base N : Nat} {L : Env} {U : List Nat} {F : List Kn → Prop} {o : Oper} {os : List Oper} {s : Src} {ss : List Src} {C : List Kn}
theorem Qc1 (hd : o.dst=none) (hk:Qcn P Rd w0 base N L U F os ss (C++[.is undef])):Qcn P Rd w0 base N L U F (o::os) (s::ss) C :=
  ⟨.is undef,fun _=>rfl,(fun h=>by rw [hd] at h; cases h),hk⟩
theorem t_op (k : Kn) (hu:U.contains C.length=false) (hs:seen C o s=true) (hg:gOk s.guard (get (envS N L (C.map Kn.val) s.reads))=true) (hd:o.dst.isNone=false)
    (h:∀ W,Ext w0 W→Qca P Ext W (k.fact base) ((execOp (Rely.look (get (envS N L (C.map Kn.val) s.reads))) o).run P W))
    (hk:Qcn P Rd w0 base N L U F os ss (C++[k])):Qcn P Rd w0 base N L U F (o::os) (s::ss) C :=
  ⟨k,(fun hn=>by rw [hd] at hn; cases hn),(fun _=>by
    rw [if_neg (by rw [hu]; decide)]
    intro ρ W hR hh
    rw [Qcr hs hh]
    refine Qcc hg ?_
    unfold QcI
    rw [QcU hs hh]
    exact h W hR),hk⟩
theorem QeZ (v : Value) (hu:U.contains C.length=true) (hs:seen C o s=true) (hg:gOk s.guard (get (envS N L (C.map Kn.val) s.reads))=true) (hd:o.dst.isNone=false)
    (h:∀ W,Rd W→(execOp (Rely.look (get (envS N L (C.map Kn.val) s.reads))) o).run P W=.ok (.value v) W)
    (hk:Qcn P Rd w0 base N L U F os ss (C++[.is v])):Qcn P Rd w0 base N L U F (o::os) (s::ss) C :=
  ⟨.is v,(fun hn=>by rw [hd] at hn; cases hn),(fun _=>by
    rw [if_pos hu]
    exact ⟨hs,v,rfl,fun W hW=>Qcc hg (h W hW)⟩),hk⟩
theorem Qcf (v : Value) (hu:U.contains C.length=false) (hs:seen C o s=true) (hg:gOk s.guard (get (envS N L (C.map Kn.val) s.reads))=true) (hd:o.dst.isNone=false)
    (h:∀ W,Ext w0 W→(execOp (Rely.look (get (envS N L (C.map Kn.val) s.reads))) o).run P W=.ok (.value v) W)
    (hk:Qcn P Rd w0 base N L U F os ss (C++[.is v])):Qcn P Rd w0 base N L U F (o::os) (s::ss) C :=
  t_op (.is v) hu hs hg hd (fun W hR=>by rw [h W hR]; exact ⟨Ext.refl _,rfl⟩) hk
theorem Qho (h : F C):Qcn P Rd w0 base N L U F [] ss C:=by cases ss <;> exact h
end
def Qdl (P : Program) (Rd:World→Prop) (l:List Oper) (N:Nat) (L:Env) (K:World→Prop):List Nat→World→Prop
  | [],W=>K W
  | j::r,W=>∃ o W',l[j]? = some o∧(execOp (Rely.look (envN N L)) o).run P W=.ok .skip W'∧Rd W'∧Qdl P Rd l N L K r W'
theorem QhO {P : Program} {Rd:World→Prop} {l:List Oper} {N:Nat} {L:Env} {K:World→Prop}:∀ (ts:List Nat) (W:World),Qdl P Rd l N L K ts W→Qdz P Rd l (Qav ds N L) K ts W
  | [],_,h=>h
  | j::r,W,⟨o,W',h1,h2,hr,h3⟩=>⟨o,W',h1,by rw [QaZ]; exact h2,hr,QhO r W' h3⟩
theorem QeW {P : Program} {Rd:World→Prop} {l:List Oper} {N:Nat} {L:Env} {K:World→Prop} {W:World} (h:K W):Qdl P Rd l N L K [] W:=h
theorem Qcw {P : Program} {Rd:World→Prop} {l:List Oper} {N:Nat} {L:Env} {K:World→Prop} {w:World} {j:Nat} {r:List Nat} (o:Oper) (g:Nat) (old cs:Array Value) (t:TypeId) (hg:w.heap[g]? = some (.cells old t)) (ho:l[j]? = some o)
    (h:(execOp (Rely.look (envN N L)) o).run P w=.ok .skip (w.setRow g cs)) (hr:∀ W:World,Puts w g W→Rd W) (k:∀ W:World,Puts w g W→W.heap[g]? = some (.cells cs t)→Qdl P Rd l N L K r W):Qdl P Rd l N L K (j::r) w :=
  ⟨o,_,ho,h,hr _ (Qbe _ _ _),k _ (Qbe _ _ _) (setRow_heap _ _ _ _ _ _ hg)⟩
theorem Qce {P : Program} {id:Nat} {Q:Exit→Act→World→Prop} {N:Nat} {L:Env} {w:World} {l:List Oper} (Rd:World→Prop) (S:List Src) (D U:List Nat) (hD:Qeg l D=true) (hm:P.follows .mixedOrders=true) (hok:okT l N S U=true) (hRd:∀ W,Ext w W→Rd W)
    (h:∀ F:List Kn→Prop,(∀ C,Qfk C 0=D→(∀ W,Ext w W→fins w.heap.size (fun L W=>Qdl P Rd l N L (fun W'=>Q .normal (Qav ds N L) W') (Qdr l) W) l C [] L W)→F C)→Qcn P Rd w.drew w.heap.size N L U F l S []) :
    (zaD id l.toArray true).wp P Q (Qav ds N L) w:=by
  have hok':=hok
  simp only [okT,Bool.and_eq_true] at hok'
  obtain ⟨⟨⟨⟨⟨hsrc,hdst⟩,hedge⟩,htail⟩,hst⟩,hUT⟩:=hok'
  obtain ⟨C,hlen,_,hF,hO⟩:=Qe0 l S [] (Qga l S 0 hsrc) (h (fun C=>Qfk C 0=D∧∀ W,Ext w W→fins w.heap.size (fun L W=>Qdl P Rd l N L (fun W'=>Q .normal (Qav ds N L) W') (Qdr l) W) l C [] L W) (fun C h1 h2=>⟨h1,h2⟩))
  have hCl:C.length=l.length:=by simpa using hlen
  refine wp_region_any hm ?_
  have hcount:l.toArray.size=left l.toArray (zaE l.toArray.size false):=by
    unfold left
    have:∀ m,m≤l.toArray.size→(zak m).countP (fun i=>!(zaE l.toArray.size false).getD i true)=m:=by
      intro m
      induction m with
      | zero=>intro _; simp
      | succ m ih =>
        intro hm
        rw [zaq,zar,ih oo,zat]
        have:(zaE l.toArray.size false).getD m true=false:=by simp at hm ⊢; simp [show m<l.length by omega]
        simp only [this,Bool.not_false,if_true]
    exact (this _ (qR _)).symm
  refine QiB (P:=P) (w0:=w.drew) (base:=w.heap.size) (N:=N) (L:=L) (S:=S) (C:=C) (U:=U) (D:=D) (Rd:=Rd) hD (fun j hj=>Qer C C 0 (fun j=>by rw [za5]) j (by rw [hF.1]; exact hj)) hok hCl (fun W hW=>hRd W (Rely.Ext.trans (Qan w) hW)) (fun j o s hj hs=>by simpa using hO j o s hj hs) (fun W hR=>?_) _ _ _ _ (fun i=>match C[i]? with | some (.is c)=>c | _=>undef) ⟨by simp,?_,rfl,rfl,?_,fun t _=>rfl,fun i c hc _=>by simp [hc]⟩ (.inl ⟨fun i _=>getD_replicate_false _ _,Ext.refl _,?_,?_⟩) hcount
  · have:=hF.2 W (Rely.Ext.trans (Qan w) hR)
    have key:=Qfr (ds:=ds) (Q:=fun af W=>Qdz P Rd l af (fun W'=>Q .normal af W') (Qdr l) W) (N:=N) (base:=w.heap.size) (W:=W) (D:=D) l C 0 [] L (fun i _=>by rw [hF.1]; simp)
    refine key ?_
    have mono:∀ (os:List Oper) (C:List Kn) (acc:List Nat) (L:Env) (A B:Env→World→Prop),(∀ L W,A L W→B L W)→fins w.heap.size A os C acc L W→fins w.heap.size B os C acc L W:=by
      intro os
      induction os with
      | nil=>intro C acc L A B h hh; cases C <;> exact h _ _ hh
      | cons o os ih =>
        intro C acc L A B h hh
        cases C with
        | nil=>exact h _ _ hh
        | cons k C =>
          cases k with
          | is c=>exact ih C acc _ A B h hh
          | new cs T=>exact fun g h1 h2 h3=>ih C _ _ A B h (hh g h1 h2 h3)
    exact mono l C [] L _ _ (fun L W h=>QhO _ _ h) this
  · intro j o ho hl
    rw [getD_replicate_false] at hl; cases hl
  · intro i o d hi; rw [getD_replicate_false] at hi; cases hi
  · intro i k _ hi; rw [getD_replicate_false] at hi; cases hi
  · intro i k _ _ hi; rw [getD_replicate_false] at hi; cases hi
end Auto
end
section
namespace Auto
open Go Go.RowKit
open Rely
variable {ds : List Deferred} {Fe : Fence} {nf : Nat}
structure Free (Fe : Fence) (nf : Nat) (P : Program) : Prop where
  fn:∀ f,Fe.fn f
  dp:Fe.depth.isSome=true→1≤nf
  calls:∀ {f:FuncId} {args:Array Value} {w:World} {T:Ending→World→Prop},Calls P f args w T→CallsIn Fe (nf-1) P f args w T
theorem QaX (l nf:Nat) (P:Program):Free (Fence.wide.inRound l) nf P:=⟨fun _=>trivial,(fun h=>by cases h),fun h=>callsIn_wide.2 h⟩
def Qcu (o : Oper):Bool:=match o.op with | .defer _=>false | _=>true
theorem QiW {o : Oper} (h:Qcu o=true):∀ c,o.op≠.defer c:=fun c hc=>by
  unfold Qcu at h
  rw [hc] at h
  cases h
section
variable {P : Program} {ops : Array Oper} {Q : Exit → Act → World → Prop} {rest : List Oper} {o : Oper} {N : Nat} {L : Env} {w : World}
structure WLI (Fe : Fence) (nf : Nat) (P : Program) (ops : Array Oper) (Q : Exit → Act → World → Prop) (rest : List Oper) (a : Act) (w : World) : Prop where
  out:wpListIn Fe nf P ops Q rest a w
theorem Qbz {P : Program} {Q:Exit→Act→World→Prop} {a:Act} {w:World} {id:Nat} {l:List Oper} (h:WLI Fe nf P l.toArray Q l a w):(zaD id l.toArray false).wpIn Fe nf P Q a w:=wpIn_region_lit h.out
theorem Qky (hF : Free Fe nf P) (hnd:Qcu o=true) (hg:Qbp ops o N L=some true) (h:∀ K:Act→World→Prop,(∀ a w,WLI Fe nf P ops Q rest a w→K a w)→o.uponIn Fe nf P (Qav ds N L) K Q ((execOp (Rely.look (envN N L)) o).run P w)):WLI Fe nf P ops Q (o::rest) (Qav ds N L) w :=
  ⟨wpListIn_step fun K hK=>by
    rw [if_pos (Qb1 hg)]
    unfold Oper.wpIn
    rw [Oper.semAt_plain Fe _ _ (QiW hnd),QaZ]
    exact ⟨fun f _=>hF.fn f,h K fun a w hh=>hK a w hh.out⟩⟩
theorem QbE (v : Value) (d:Nat) (hd:o.dst=some d) (hF:Free Fe nf P) (hnd:Qcu o=true) (hg:Qbp ops o N L=some true) (h:(execOp (Rely.look (envN N L)) o).run P w=.ok (.value v) w) (k:WLI Fe nf P ops Q rest (Qav ds N ((d,v)::L)) w):WLI Fe nf P ops Q (o::rest) (Qav ds N L) w :=
  Qky hF hnd hg fun K hK=>by
    rw [h]
    show K _ _
    rw [hd,QaS]
    exact hK _ _ k
theorem Qkx (v : Value) (w':World) (d:Nat) (hd:o.dst=some d) (hF:Free Fe nf P) (hnd:Qcu o=true) (hg:Qbp ops o N L=some true) (h:(execOp (Rely.look (envN N L)) o).run P w=.ok (.value v) w') (k:WLI Fe nf P ops Q rest (Qav ds N ((d,v)::L)) w'):WLI Fe nf P ops Q (o::rest) (Qav ds N L) w :=
  Qky hF hnd hg fun K hK=>by
    rw [h]
    show K _ _
    rw [hd,QaS]
    exact hK _ _ k
theorem QlK (w' : World) (hd:o.dst=none) (hF:Free Fe nf P) (hnd:Qcu o=true) (hg:Qbp ops o N L=some true) (h:(execOp (Rely.look (envN N L)) o).run P w=.ok .skip w') (k:WLI Fe nf P ops Q rest (Qav ds N L) w'):WLI Fe nf P ops Q (o::rest) (Qav ds N L) w :=
  Qky hF hnd hg fun K hK=>by
    rw [h]
    show K _ _
    rw [hd]
    exact hK _ _ k
theorem Qit (cs : Array Value) (T:TypeId) (d:Nat) (hd:o.dst=some d) (hF:Free Fe nf P) (hnd:Qcu o=true) (hg:Qbp ops o N L=some true) (h:(execOp (Rely.look (envN N L)) o).run P w=.ok (.value (pp w.heap.size 0)) (w.alloc (.cells cs T)))
    (k:∀ (g:Nat) (W:World),w.heap.size≤g→Ext w W→W.heap[g]? = some (.cells cs T)→WLI Fe nf P ops Q rest (Qav ds N ((d,pp g 0)::L)) W):WLI Fe nf P ops Q (o::rest) (Qav ds N L) w :=
  Qkx _ _ d hd hF hnd hg h (k _ _ (qR _) (Qbi _ _) (heap_alloc_new _ _))
theorem QcM (k : Q .normal (Qav ds N L) w):WLI Fe nf P ops Q [] (Qav ds N L) w:=⟨k⟩
end
section
variable {P : Program} {ops : Array Oper} {Q : Exit → Act → World → Prop} {rest : List Oper} {o : Oper} {N : Nat} {L : Env} {w : World}
theorem QeO (g : Nat) (old cs:Array Value) (t:TypeId) (hg:w.heap[g]? = some (.cells old t)) (hd:o.dst=none) (hF:Free Fe nf P) (hnd:Qcu o=true) (hw:Qbp ops o N L=some true) (h:(execOp (Rely.look (envN N L)) o).run P w=.ok .skip (w.setRow g cs))
    (k:∀ W:World,Puts w g W→W.heap[g]? = some (.cells cs t)→WLI Fe nf P ops Q rest (Qav ds N L) W):WLI Fe nf P ops Q (o::rest) (Qav ds N L) w :=
  QlK _ hd hF hnd hw h (k _ (Qbe _ _ _) (setRow_heap _ _ _ _ _ _ hg))
end
section
variable {P : Program} {Q : Exit → Act → World → Prop} {w : World} {N : Nat} {L : Env}
theorem Qdf {c : Operand} {x y:Code} {t:Bool} (hc:Rely.look (envN N L) c=.bool t) (ht:t=true→x.wpIn Fe nf P Q (Qav ds N L) w) (hf:t=false→y.wpIn Fe nf P Q (Qav ds N L) w):(zbf c x y).wpIn Fe nf P Q (Qav ds N L) w:=wpIn_cond_split (by rw [QaZ]; exact hc) ht hf
end
end Auto
end
section
namespace Auto
open Go Go.RowKit
open Rely
variable {ds : List Deferred}
theorem Qm2 {P : Program} {f:FuncId} {fn:Func} {c:Code} {args:Array Value} {w:World} {R:Ending→World→Prop} (N:Nat) (L:Env)
    (hf:P.funcs[f]? = some fn) (hb:fn.body=some c) (hn:fn.ntmps=N) (hs:Nat.ble args.size N=true) (hL:QdL args.toList 0=L)
    (h:c.wp P (bodyPostM Fence.wide 3 P fn R) (Qav [] N L) w):Calls P f args w R:=by
  subst hn
  subst hL
  refine (callsIn_wide (n:=3)).1 (callsIn_of_wp_marks hf hb trivial (wpIn_wide.2 ?_) rfl)
  rw [entry _ _ (by simpa using hs)]
  exact h
abbrev mark (D : Nat) : Deferred := { target := .collected D, args := #[] }
theorem Qhy (N : Nat) (L:Env) (p:Nat) (v:Value):({ tmps:=(#[p].zip #[v]).foldl (fun t (p,v)=>t.setIfInBounds p v) (Qav ds N L).tmps,defers:=[] }:Act)=Qav [] N ((p,v)::L):=by
  rw [←QaS]
  simp [Act.put,Qav]
theorem Qge {W : World} {g D:Nat} {cs:Array Value} {t:TypeId} {b:Option (List Deferred)} (h:W.heap[g]? = some (.cells cs t)) (hD:W.heap[D]? = some (.deferred b)) (o:Obj):(W.putObj D o).heap[g]? = some (.cells cs t) :=
  QbH h (grownBy_putObj' W D o) (fun r e=>by cases e; exact ⟨_,hD,rfl⟩)
theorem Qgf {w W:World} {D:Nat} {ob:Obj} (h:Ext w W) (hl:w.heap.size≤D) (hD:W.heap[D]? = some ob) (o:Obj):Ext w (W.putObj D o) :=
  ⟨h.os,h.tape,h.output,by have:=h.size; simpa using this,fun k hk=>(zbl (fun e=>by omega)).trans (h.block k hk)⟩
theorem QfM {W W':World} {g:Nat} {cs:Array Value} {t:TypeId} (hp:Puts W g W') (hg:W.heap[g]? = some (.cells cs t)):KeepsOthers W W' :=
  ⟨qE hp.2.2.2.1.symm,fun k o hk ho=>by
    refine (hp.2.2.2.2 k fun e=>?_).trans hk
    subst e
    rw [hg] at hk
    cases hk
    cases ho⟩
section
variable {P : Program} {fn : Func} {R : Ending → World → Prop} {N : Nat} {L : Env} {w : World}
theorem QmP {D : Nat} {r s:ResultVar} (u v:Value) (hr:fn.results=#[r,s]) (hD:w.heap[D]? = some (.deferred (some []))) (h:Qdm P (w.putObj D (.deferred none)) N L r u) (h2:Qdm P (w.putObj D (.deferred none)) N L s v) (k:R (.returned (.tuple #[u,v])) (w.putObj D (.deferred none))):bodyPostM Fence.wide 3 P fn R .ret (Qav [mark D] N L) w :=
  ⟨by simp,.inl ⟨_,_,rfl,run_takeDeferred hD,⟨_,Qe3 hr h h2,k⟩⟩⟩
end
end Auto
end
section
namespace Auto
open Go Go.RowKit
open Rely
variable {ds : List Deferred}
theorem Qac {P : Program} {ρ:Operand→Value} {o:Oper} {w:World} {u v:Value} (h:(execOp ρ o).run P w=.ok (.value u) w) (e:u=v):(execOp ρ o).run P w=.ok (.value v) w:=by rw [h,e]
theorem QaO {P : Program} {ρ:Operand→Value} {o:Oper} {w:World} (op:BinOp) (t ty:TypeId) (x y:Operand) (k k':IntKind) (a b:Int) (v:Value) (ho:o.op=.binOp op t x y ty) (hx:ρ x=.int k a) (hy:ρ y=.int k' b)
    (h:(binOp op t (.int k a) (.int k' b)).run P w=.ok v w):(execOp ρ o).run P w=.ok (.value v) w:=by
  unfold execOp
  simp only [ho,hx,hy,zaJ]
  have hg:(eqGuard op t x y (.int k a) (.int k' b)).run P w=.ok () w:=by
    unfold eqGuard
    cases op <;> rfl
  simp [hg,h]
theorem Qcd {P : Program} {w:World} (t:TypeId) (k k':IntKind) (a b r:Int) (hb:0≤b) (h:a.fdiv (2^min b.toNat k.bits)=r):(binOp .shr t (.int k a) (.int k' b)).run P w=.ok (.int k r) w:=by
  subst h
  unfold binOp Op.shift
  simp [show ¬ b<0 by omega]
theorem Qef {P : Program} {w:World} (t:TypeId) (k k':IntKind) (a b r:Int) (hb:0≤b) (h:k.wrap (a*2^min b.toNat k.bits)=r):(binOp .shl t (.int k a) (.int k' b)).run P w=.ok (.int k r) w:=by
  subst h
  unfold binOp Op.shift
  simp [show ¬ b<0 by omega]
theorem Qhw {P : Program} {ρ:Operand→Value} {o:Oper} {w:World} (ty tr:TypeId) (x y:Operand) (u v:Array Value) (r:Value) (ho:o.op=.binOp .eql ty x y tr) (hx:ρ x=.agg u) (hy:ρ y=.agg v)
    (hm:P.eqGuardType P.depth ty=false) (h:(binOp .eql ty (.agg u) (.agg v)).run P w=.ok r w):(execOp ρ o).run P w=.ok (.value r) w:=by
  unfold execOp
  simp only [ho,hx,hy,zaJ,zaW,run_eqGuard_agg (hm:=hm),zaK,h]
theorem Qfb {P : Program} {ρ:Operand→Value} {o:Oper} {w:World} (ty tr:TypeId) (x y:Operand) (u v:Array Value) (r:Value) (ho:o.op=.binOp .neq ty x y tr) (hx:ρ x=.agg u) (hy:ρ y=.agg v)
    (hm:P.eqGuardType P.depth ty=false) (h:(binOp .neq ty (.agg u) (.agg v)).run P w=.ok r w):(execOp ρ o).run P w=.ok (.value r) w:=by
  unfold execOp
  simp only [ho,hx,hy,zaJ,zaW,run_eqGuard_agg (hm:=hm),zaK,h]
theorem Qn0 (n : Nat) (h:n<9223372036854775808):zbm.wrap (n:Int)=(n:Int):=IntWalk.i64_in _ oo
theorem Qcv (n d:Nat) (h:n<9223372036854775808):zbm.wrap (Int.tdiv (n:Int) (d:Int))=((n/d:Nat):Int):=by
  rw [←Int.ofNat_tdiv]
  exact Qn0 _ (Nat.lt_of_le_of_lt (Nat.div_le_self _ _) h)
theorem QbK (n d:Nat):Int.tmod (n:Int) (d:Int)=((n%d:Nat):Int):=(Int.ofNat_tmod n d).symm
theorem Qcj {P : Program} {ρ:Operand→Value} {o:Oper} {w:World} (t:TypeId) (x y:Operand) (k:IntKind) (n g off len:Nat) (e:TypeId) (sz:Nat) (ho:o.op=.indexAddr t x y) (hx:ρ x=pp g off) (hy:ρ y=.int k n)
    (hu:P.underlying t=some (.array len e)) (hs:(P.info? e).map (·.size)=some sz) (hn:n<len):(execOp ρ o).run P w=.ok (.value (pp g (off+n*sz))) w:=by
  have hadd:(⟨g,off,none⟩:Addr).add (n*sz)=⟨g,off+n*sz,none⟩:=by unfold Addr.add; split <;> simp_all
  have hsz:(sizeOf e).run P w=.ok sz w:=by
    cases hq:P.info? e with
    | none=>simp [hq] at hs
    | some i =>
      have:i.size=sz:=by simpa [hq] using hs
      simp [sizeOf,typeInfo,hq,this]
  unfold execOp
  simp only [ho,hx,hy,Instr.indexAt,Instr.sureAddr,asIntOf,zaJ,run_underlying hu w,zaK,zaW]
  rw [if_pos ⟨by omega,by omega⟩]
  simp [hsz,hadd]
theorem Qa7 {P : Program} {ρ:Operand→Value} {o:Oper} {w:World} (t:TypeId) (x y:Operand) (k:IntKind) (n g len:Nat) (e:TypeId) (ho:o.op=.indexAddr t x y) (hx:ρ x=pp g 0) (hy:ρ y=.int k n)
    (hu:P.underlying t=some (.array len e)) (hs:(P.info? e).map (·.size)=some 1) (hn:n<len):(execOp ρ o).run P w=.ok (.value (pp g n)) w:=by
  have:=Qcj (w:=w) t x y k n g 0 len e 1 ho hx hy hu hs hn
  rw [za5,zaI] at this
  exact this
theorem Qa0 {P : Program} {ρ:Operand→Value} {o:Oper} {w:World} {k:IntKind} (ty:TypeId) (x y:Operand) (g off:Nat) (t:TypeId) (xs:List Int) (v:Int) (hg:w.heap[g]? = some (.cells (ints k xs) t))
    (ho:o.op=.store ty x y) (hx:ρ x=pp g off) (hy:ρ y=.int k v) (hi:(P.info? ty).map (·.size)=some 1) (hs:off<xs.length) :
    (execOp ρ o).run P w=.ok .skip (w.setRow g (ints k (xs.set off v))):=by
  rw [←Qir]
  exact Qbj ty x y g off t _ _ hg ho hx hy hi (by rw [Qbq]; simpa using hs) rfl rfl
def QhK (L : Env):Env→Prop
  | []=>True
  | (t,v)::r=>get L t=v∧QhK L r
theorem Qhf {L : Env}:∀ (M:Env),QhK L M→∀ t,get (M++L) t=get L t
  | [],_,_=>rfl
  | (k,v)::r,⟨h1,h2⟩,t=>by
    show (bif zaR k t then v else get (r++L) t)=_
    cases hb:zaR k t with
    | true=>rw [_root_.cond_true,←h1,zaU hb]
    | false=>rw [_root_.cond_false,Qhf r h2 t]
theorem Qf0 {N : Nat} {L M:Env} (h:QhK L M):Qav ds N (M++L)=Qav ds N L:=by
  unfold Qav
  congr 2
  funext t
  exact Qhf M h t.1
theorem QfS {P : Program} {c:Code} {Q:Exit→Act→World→Prop} (I:Nat→Act→World→Prop)
    (round:∀ n a w,I n a w→c.wp P (Exit.then (fun a' w'=>∃ m,m<n∧I m a' w') Q) a w) (n:Nat) (a:Act) (w:World) (h₀:I n a w):(Code.loop c).wp P Q a w:=by
  intro b k cs
  have key:∀ n a w,I n a w→∃ e a' w',Q e a' w'∧Arrives P (lone (b.at a (.code c::.inLoop c::k)) cs w) b k cs e a' w':=by
    intro n
    induction n using zaw with
    | _ n ih =>
      intro a w hI
      obtain ⟨e,a₁,w₁,hq,harr⟩:=round n a w hI b (.inLoop c::k) cs
      cases e with
      | normal =>
        obtain ⟨m,hlt,hI₁⟩:=hq
        obtain ⟨e₂,a₂,w₂,hq₂,harr₂⟩:=ih m hlt a₁ w₁ hI₁
        exact ⟨e₂,a₂,w₂,hq₂,.of_steps (Steps.trans harr (.one step_inLoop)) harr₂⟩
      | exit id=>exact ⟨_,a₁,w₁,hq,.pass (x:=.inLoop c) rfl (fun _ _=>.inl (by simp)) harr⟩
      | goto l=>exact ⟨_,a₁,w₁,hq,.pass (x:=.inLoop c) rfl (fun _ _=>.inl (by simp)) harr⟩
      | ret=>exact ⟨_,a₁,w₁,hq,.pass (x:=.inLoop c) rfl (fun _ _=>.inl (by simp)) harr⟩
      | panic ch=>exact ⟨_,a₁,w₁,hq,.pass (x:=.inLoop c) rfl (fun _ _=>.inl (by simp)) harr⟩
      | outgrown=>exact ⟨_,a₁,w₁,hq,.pass (x:=.inLoop c) rfl (fun _ _=>.inl (by simp)) harr⟩
  obtain ⟨e,a',w',hq,harr⟩:=key n a w h₀
  exact ⟨e,a',w',hq,.of_steps (.one step_loop) harr⟩
def Goes {α : Type} (ds:List Deferred) (N:Nat) (live:α→Env) (I:α→World→Prop) (μ:α→Nat) (s:α) (a':Act) (W':World):Prop:=∃ (s':α) (X':Env),a'=Qav ds N (live s'++X')∧I s' W'∧μ s' < μ s
theorem Qa3 {α : Type} {P:Program} {body:Code} {Q:Exit→Act→World→Prop} {N:Nat} {L:Env} {w:World} (live:α→Env) (I:α→World→Prop) (μ:α→Nat) (s0:α) (hL:QhK L (live s0)) (h0:I s0 w)
    (round:∀ (s:α) (X:Env) (W:World),I s W→body.wp P (Exit.then (Goes ds N live I μ s) Q) (Qav ds N (live s++X)) W):(Code.loop body).wp P Q (Qav ds N L) w:=by
  rw [←Qf0 hL]
  refine QfS (fun n a W=>∃ (s:α) (X:Env),a=Qav ds N (live s++X)∧I s W∧μ s=n) ?_ (μ s0) _ _ ⟨s0,L,rfl,h0,rfl⟩
  rintro n a W ⟨s,X,rfl,hI,rfl⟩
  refine wp_mono (round s X W hI) fun e a' w' h=>?_
  cases e <;> try exact h
  obtain ⟨s',X',h1,h2,h3⟩:=h
  exact ⟨μ s',h3,s',X',h1,h2,rfl⟩
theorem QiX {α : Type} {N:Nat} {L:Env} {w:World} {live:α→Env} {I:α→World→Prop} {μ:α→Nat} {s:α} (s':α) (hL:QhK L (live s')) (h:I s' w) (hm:μ s' < μ s):Goes ds N live I μ s (Qav ds N L) w :=
  ⟨s',L,(Qf0 hL).symm,h,hm⟩
theorem Qa1 {α : Type} {N:Nat} {L:Env} {w:World} {live:α→Env} {I:α→World→Prop} {μ:α→Nat} {s:α} {Q:Exit→Act→World→Prop} (s':α) (hL:QhK L (live s')) (h:I s' w) (hm:μ s' < μ s):Exit.then (Goes ds N live I μ s) Q .normal (Qav ds N L) w :=
  QiX s' hL h hm
end Auto
end
end
open Rely.Ext renaming refl → zb1, trans → zb2
open Auto.Kn renaming val → zb3
section
namespace Auto
open Go Go.RowKit
open Rely
variable {ds : List Deferred}
theorem Qfm (k : IntKind) (n:Nat):madeCells (zaH k 0).cells (n*1)=ints k (zaa n 0):=by
  unfold madeCells ints
  apply zaN
  · simp
  · intro i h1 h2
    simp [Value.cells,Nat.mod_one]
theorem QdR {P : Program} {ρ:Operand→Value} {o:Oper} {w:World} {k:IntKind} (t:TypeId) (x y:Operand) (kl kc:IntKind) (n:Nat) (e:TypeId) (ho:o.op=.makeSlice t x y) (hx:ρ x=.int kl n) (hy:ρ y=.int kc n)
    (hu:P.underlying t=some (.slice e)) (hi:(P.info? e).map (fun i=>(i.zero,i.size,i.bytes))=some (some (.int k 0),1,8)∨(P.info? e).map (fun i=>(i.zero,i.size,i.bytes))=some (some (.int k 0),1,1)) (hn:n≤16777216) :
    (execOp ρ o).run P w=.ok (.value (.slice (some ⟨w.heap.size,0,none⟩) n n)) (w.alloc (.cells (ints k (zaa n 0)) e)):=by
  cases hq:P.info? e with
  | none=>rcases hi with hi | hi <;> simp [hq] at hi
  | some i =>
    have hz:i.zero=some (.int k 0)∧i.size=1∧i.bytes≤8:=by
      rcases hi with hi | hi <;> simp [hq] at hi <;> exact ⟨hi.1,hi.2.1,by omega⟩
    have hb:(i.bytes:Int)*(n:Int)≤281474976710656:=by
      have h1:(i.bytes:Int)*(n:Int)≤8*(n:Int):=Int.mul_le_mul_of_nonneg_right oo oo
      omega
    have h:=run_make w t e i (.int k 0) hu hq hz.1 kl kc (n:Int) (n:Int) oo oo hb oo
    rw [hz.2.1,Int.toNat_natCast,Qfm] at h
    unfold execOp
    simp only [ho,hx,hy,zaJ,zaW,h,zaK]
theorem Qct {P : Program} {ρ:Operand→Value} {o:Oper} {w:World} (t:TypeId) (x y:Operand) (k:IntKind) (n g off len cap:Nat) (e:TypeId) (ho:o.op=.indexAddr t x y) (hx:ρ x=.slice (some ⟨g,off,none⟩) len cap) (hy:ρ y=.int k n)
    (hu:P.underlying t=some (.slice e)) (hs:(P.info? e).map (·.size)=some 1) (hn:n<len):(execOp ρ o).run P w=.ok (.value (pp g (off+n))) w:=by
  cases hq:P.info? e with
  | none=>simp [hq] at hs
  | some i =>
    have hs':i.size=1:=by simpa [hq] using hs
    have hadd:(⟨g,off,none⟩:Addr).add n=⟨g,off+n,none⟩:=by unfold Addr.add; split <;> simp_all
    have h0:(0:Int)≤(n:Int):=by omega
    have h1:(n:Int)<(len:Int):=by omega
    unfold execOp
    simp only [ho,hx,hy]
    simp [Instr.indexAt,asIntOf,run_underlying hu,sizeOf,typeInfo,hq,hs',h0,hn,hadd]
theorem Qbr {P : Program} {ρ:Operand→Value} {o:Oper} {w:World} (t:TypeId) (x y:Operand) (k:IntKind) (n g len cap:Nat) (e:TypeId) (ho:o.op=.indexAddr t x y) (hx:ρ x=.slice (some ⟨g,0,none⟩) len cap) (hy:ρ y=.int k n)
    (hu:P.underlying t=some (.slice e)) (hs:(P.info? e).map (·.size)=some 1) (hn:n<len):(execOp ρ o).run P w=.ok (.value (pp g n)) w:=by
  have:=Qct (w:=w) t x y k n g 0 len cap e ho hx hy hu hs hn
  rwa [za5] at this
theorem QaB {P : Program} {ρ:Operand→Value} {o:Oper} {w:World} (ty:TypeId) (x:Operand) (a:Addr) (v:Value) (hc:w.cell? a=some v)
    (ho:o.op=.load ty x) (hx:ρ x=.pointer (some a)) (hu:aggD P ty=some false):(execOp ρ o).run P w=.ok (.value v) w:=by
  unfold aggD at hu
  cases hd:P.underlying ty with
  | none=>rw [hd] at hu; cases hu
  | some d =>
    rw [hd] at hu
    have hdd:aggB d=false:=Option.some.inj hu
    have hagg:(isAgg ty).run P w=.ok false w:=by
      unfold isAgg
      rw [zaJ,run_underlying hd w]
      cases d <;> first | rfl | cases hdd
    unfold execOp
    simp [ho,hx,Instr.loadAt,Instr.sureAddr,loadVar,hagg,hc]
theorem Qa9 {W : World} {g:Nat} {k:IntKind} {a b:List Int} {t:TypeId} (r:W.heap[g]? = some (.cells (ints k a) t)) (h:a=b):W.heap[g]? = some (.cells (ints k b) t):=h▸r
theorem Qbo {P : Program} {ρ:Operand→Value} {o:Oper} {w:World} {f:FuncId} {args:Array Value} {v:Value} (qs:Array Operand) (ts:Array TypeId) (x:Operand) (ho:o.op=.call { callee:=.value x,args:=qs,argTypes:=ts })
    (hx:ρ x=.func (.func f) #[] #[]) (ha:qs.map ρ=args) (h:(callFunc f args).run P w=.ok (.value v) w):(execOp ρ o).run P w=.ok (.value v) w:=by
  subst ha
  unfold execOp
  simp only [ho,resolve,hx,Deferred.ofValue,invoke,zaJ,zaW,zaK]
  simpa using h
section
variable {P : Program} {ops : Array Oper} {Q : Exit → Act → World → Prop} {rest : List Oper} {o : Oper} {N : Nat} {L : Env} {w : World}
theorem QaA (cs : Array Value) (T:TypeId) (n d:Nat) (hd:o.dst=some d) (hg:Qbp ops o N L=some true) (h:(execOp (Rely.look (envN N L)) o).run P w=.ok (.value (.slice (some ⟨w.heap.size,0,none⟩) n n)) (w.alloc (.cells cs T)))
    (k:∀ (g:Nat) (W:World),w.heap.size≤g→Ext w W→W.heap[g]? = some (.cells cs T)→WL P ops Q rest (Qav ds N ((d,.slice (some ⟨g,0,none⟩) n n)::L)) W):WL P ops Q (o::rest) (Qav ds N L) w :=
  Qbs _ _ d hd hg h (k _ _ (qR _) (Qbi _ _) (heap_alloc_new _ _))
end
section
variable {K : Act → World → Prop} {Q : Exit → Act → World → Prop} {a : Act} {w : World}
theorem goX1 {n : Nat} (h:Q (.exit n) a w):Exit.then K Q (.exit n) a w:=h
theorem goX2 {n : Nat} (h:Q .normal a w):Exit.inBlock n Q (.exit n) a w:=by
  unfold Exit.inBlock
  simpa using h
theorem goR1 (h : Q .ret a w):Exit.then K Q .ret a w:=h
theorem goR2 {n : Nat} (h:Q .ret a w):Exit.inBlock n Q .ret a w:=h
theorem goX3 {n : Nat} (h:Q .normal a w):Exit.inBlock n Q .normal a w:=h
end
end Auto
end
section
namespace Auto
open Go Go.RowKit
open Rely
def qv (P : Program) (o:Oper) (ρ:Operand→Value) (w:World):Value :=
  match o.op with
  | .move x=>ρ x
  | .assign x=>ρ x
  | _=>match (execOp ρ o).run P w with
    | .ok (.value v) _=>v
    | _=>undef
def sgV (P : Program) (ops:Array Oper) (N:Nat) (w:World):Nat→List Oper→Env→Env
  | m+1,o::os,L=>sgV P ops N w m os ((o.dst.getD 0,match Qbp ops o N L with | some true=>qv P o (Rely.look (envN N L)) w | _=>undef)::L)
  | _,_,L=>L
def sgR (P : Program) (ops:Array Oper) (N:Nat):Nat→List Oper→Env→World→Option (Env×World)
  | m+1,o::os,L,w=>match o.dst,Qbp ops o N L with
    | some d,some true=>match (execOp (Rely.look (envN N L)) o).run P w with
      | .ok (.value v) w'=>sgR P ops N m os ((d,v)::L) w'
      | _=>none
    | some d,some false=>sgR P ops N m os ((d,undef)::L) w
    | _,_=>none
  | 0,_,L,w=>some (L,w)
  | _,_,_,_=>none
theorem Qlh {P : Program} {ops:Array Oper} {Q:Exit→Act→World→Prop} {ds:List Deferred} {N:Nat} {L:Env} {w:World} {o o2:Oper} {rest:List Oper} {ty:TypeId} {x y:Operand} (A B:Array Value) (T:TypeId) (d n:Nat) (hd:o.dst=some d) (hg:Qbp ops o N L=some true) (h:(execOp (Rely.look (envN N L)) o).run P w=.ok (.value (pp w.heap.size 0)) (w.alloc (.cells A T)))
    (hd2:o2.dst=none) (hw2:∀ g,Qbp ops o2 N ((d,pp g 0)::L)=some true) (ho:o2.op=.store ty x y) (hx:∀ g,Rely.look (envN N ((d,pp g 0)::L)) x=pp g 0) (hy:∀ g,Rely.look (envN N ((d,pp g 0)::L)) y=.agg B) (hi:(P.info? ty).map (·.size)=some n) (hB:B.size=n) (hA:A.size=n) (h1:B.all (·.oneCell')=true)
    (k:∀ (g:Nat) (W:World),w.heap.size≤g→Ext w W→W.heap[g]? = some (.cells B T)→WL P ops Q rest (Qav ds N ((d,pp g 0)::L)) W):WL P ops Q (o::o2::rest) (Qav ds N L) w :=
  Qah A T d hd hg h fun g W1 l e r=>Qag g A B T r hd2 (hw2 g) (Qaf ty x y g T A B r ho (hx g) (hy g) (isz hi hB) (eqsz hA hB) h1) fun W2 p r2=>k g W2 l (Puts.ext p e l) r2
theorem izT {k : IntKind} {xs:List Int} {n:Nat} (h:xs.length=n):(ints k xs).size=n:=(Qbq k xs).trans h
theorem rpn {W W1 W2:World} {c k:Nat} {ob:Obj} (p:Puts W1 c W2) (r:W.heap[k]? = some ob) (e:Ext W W1) (l:W.heap.size≤c):W2.heap[k]? = some ob:=Puts.row p (Qaa r e) (Qad r l)
section
variable {P : Program} {ops : Array Oper} {Q : Exit → Act → World → Prop} {ds : List Deferred} {N : Nat}
theorem QhP : ∀ (m:Nat) (rest:List Oper) (L L':Env) (w w':World),sgR P ops N m rest L w=some (L',w')→WL P ops Q (rest.drop m) (Qav ds N L') w'→WL P ops Q rest (Qav ds N L) w
  | 0,rest,L,L',w,w',h,k=>by
    have h2:(some (L,w):Option (Env×World))=some (L',w'):=by unfold sgR at h; exact h
    simp only [Option.some.injEq,Prod.mk.injEq] at h2
    obtain ⟨rfl,rfl⟩:=h2
    exact k
  | m+1,[],L,L',w,w',h,k=>by simp [sgR] at h
  | m+1,o::os,L,L',w,w',h,k=>by
    unfold sgR at h
    split at h
    · rename_i d hd hg
      split at h
      · rename_i v w1 hr
        exact Qbs v w1 d hd hg hr (QhP m os _ L' w1 w' h k)
      · cases h
    · rename_i d hd hg
      exact QeH d hd hg (QhP m os _ L' w w' h k)
    · cases h
theorem sg {rest : List Oper} {L:Env} {w:World} (m:Nat) (h:sgR P ops N m rest L w=some (sgV P ops N w m rest L,w)) (k:WL P ops Q (rest.drop m) (Qav ds N (sgV P ops N w m rest L)) w):WL P ops Q rest (Qav ds N L) w:=QhP m rest L _ w w h k
theorem sgA {id : Nat} {l:List Oper} {L:Env} {w:World} (h:sgR P l.toArray N l.length l L w=some (sgV P l.toArray N w l.length l L,w)) (k:Q .normal (Qav ds N (sgV P l.toArray N w l.length l L)) w):(zaD id l.toArray false).wp P Q (Qav ds N L) w :=
  Qaj (QhP l.length l L _ w w h (by rw [List.drop_length]; exact Qas k))
theorem sgB {id : Nat} {l:List Oper} {L:Env} {w:World} {c:Code} (h:sgR P l.toArray N l.length l L w=some (sgV P l.toArray N w l.length l L,w)) (k:c.wp P Q (Qav ds N (sgV P l.toArray N w l.length l L)) w):(Code.seq (zaD id l.toArray false) c).wp P Q (Qav ds N L) w :=
  wp_seq_k fun K hK=>sgA h (hK _ _ k)
theorem sgC {id : Nat} {l:List Oper} {a:Act} {w:World} {c:Code} (h:∀ K:Act→World→Prop,(∀ a w,c.wp P Q a w→K a w)→WL P l.toArray (Exit.then K Q) l a w):(Code.seq (zaD id l.toArray false) c).wp P Q a w :=
  wp_seq_k fun K hK=>Qaj (h K hK)
theorem sgN {K : Act→World→Prop} {L:Env} {w:World} {c:Code} (hK:∀ a w,c.wp P Q a w→K a w) (h:c.wp P Q (Qav ds N L) w):WL P ops (Exit.then K Q) [] (Qav ds N L) w:=Qas (hK _ _ h)
theorem sgT {L : Env} {w:World} {c:Operand} {y z:Code} (hc:Rely.look (envN N L) c=.bool true) (h:z.wp P Q (Qav ds N L) w):(Code.seq (zbf c .skip y) z).wp P Q (Qav ds N L) w:=wp_seq_k fun K hK=>cond_true hc (wp_skip (hK _ _ h))
end
theorem sv {P : Program} {ops:Array Oper} {Q:Exit→Act→World→Prop} {ds:List Deferred} {N:Nat} {rest:List Oper} {L:Env} {w:World} {o:Oper} (v:Value) (d:Nat) (h:(execOp (Rely.look (envN N L)) o).run P w=.ok (.value v) w) (k:WL P ops Q rest (Qav ds N ((d,v)::L)) w) (hd:o.dst=some d:=by kernel_rfl) (hg:Qbp ops o N L=some true:=by kernel_rfl):WL P ops Q (o::rest) (Qav ds N L) w:=QmJ v d hd hg h k
theorem cz1 {p : Prop} {xs:List Int} {n:Nat} (a:xs.length=n) (h:(∀ k,(ints k xs).size=n)→p:=by intro e; simp only [Qal,qS,cat,e]; rfl):p:=h fun k=>(Qbq k xs).trans a
theorem czR {p : Prop} (h:(∀ k n a,(ints k (zaa n a)).size=n)→p:=by intro e; simp only [Qal,qS,cat,e]; rfl):p:=h fun k n a=>(Qbq k _).trans qZ
theorem mo1 {φ : Value→World→Prop} {w:World} (e:Ending) (w':World) (h:Qby w φ e w'):∃ v,e=.returned v∧φ v w'∧Ext w w':=by obtain ⟨v,rfl,e1,hv⟩:=h; exact ⟨v,rfl,hv,e1⟩
theorem mo2 {u : Value} {p q:World→Prop} (e:Ending) (w':World) (h:e=.returned u∧p w'∧q w'):∃ v,e=.returned v∧v=u∧p w'∧q w':=by obtain ⟨rfl,h1,h2⟩:=h; exact ⟨_,rfl,rfl,h1,h2⟩
@[reducible] def db {n : Nat} (x : BitVec n) (k : Nat) : Int := ((x.toNat / k % 256 : Nat) : Int)
end Auto
end
section
namespace Own
open Go Go.RowKit
open Rely Auto
def ExtB (g : Nat) (w W:World):Prop:=W.os=w.os∧W.tape=w.tape∧W.output=w.output∧w.heap.size≤W.heap.size∧∀ k,k<w.heap.size→k≠g→W.heap[k]? = w.heap[k]?
theorem ExtB.refl (g : Nat) (w:World):ExtB g w w:=⟨rfl,rfl,rfl,qR _,fun _ _ _=>rfl⟩
theorem ExtB.ext {g : Nat} {w W W':World} (h:ExtB g w W) (e:Ext W W'):ExtB g w W' :=
  ⟨e.os.trans h.1,e.tape.trans h.2.1,e.output.trans h.2.2.1,qT h.2.2.2.1 e.size,fun k hk hn=>(e.block k (qL hk h.2.2.2.1)).trans (h.2.2.2.2 k hk hn)⟩
theorem ExtB.puts {g : Nat} {w W W':World} (h:ExtB g w W) (p:Puts W g W'):ExtB g w W' :=
  ⟨p.1.trans h.1,p.2.1.trans h.2.1,p.2.2.1.trans h.2.2.1,by have:=h.2.2.2.1; have:=p.2.2.2.1; omega,fun k hk hn=>(p.2.2.2.2 k hn).trans (h.2.2.2.2 k hk hn)⟩
theorem ExtB.row {g : Nat} {w W:World} {k:Nat} {ob:Obj} (h:ExtB g w W) (r:w.heap[k]? = some ob) (hn:k≠g):W.heap[k]? = some ob:=(h.2.2.2.2 k (by
  rcases zau k w.heap.size with hl | hl
  · exact hl
  · rw [zai hl] at r; cases r) hn).trans r
theorem ExtB.up {g : Nat} {w0 w W:World} (h:Ext w0 w) (k:ExtB g w W) (lo:w0.heap.size≤g):Ext w0 W :=
  ⟨k.1.trans h.os,k.2.1.trans h.tape,k.2.2.1.trans h.output,qT h.size k.2.2.2.1,fun i hi=>(k.2.2.2.2 i (qL hi h.size) oo).trans (h.block i hi)⟩
theorem ExtB.trans {g : Nat} {a b c:World} (h:ExtB g a b) (k:ExtB g b c):ExtB g a c :=
  ⟨k.1.trans h.1,k.2.1.trans h.2.1,k.2.2.1.trans h.2.2.1,qT h.2.2.2.1 k.2.2.2.1,fun i hi hn=>(k.2.2.2.2 i (qL hi h.2.2.2.1) hn).trans (h.2.2.2.2 i hi hn)⟩
def Qpa (base g c:Nat) (cur:Array Value) (bs:List Int) (W:World):Prop:=base≤g∧W.heap[g]? = some (.cells cur 5)∧cur.size=c∧bs.length≤c∧c≤maxLen∧cur.toList.take bs.length=bs.map (zaH .u8)
def OwnB (base : Nat) (bs:List Int) (v:Value) (W:World):Prop:=∃ (g c:Nat) (cur:Array Value),v=.slice (some ⟨g,0,none⟩) bs.length c∧Qpa base g c cur bs W
theorem QjF {ρ : Operand→Value} {o:Oper} {W:World} (x:Operand) (v:Value) (ho:o.op=.convert 41 9 x) (hx:ρ x=v) (bs:List Int) (h:QhJ W v bs):(execOp ρ o).run Tryz.prog W=.ok (.value (.string (Qle bs))) W:=by
  subst hx
  unfold execOp
  simp only [ho,zaJ,zaW,Qjm Tryz.underlying41 Tryz.underlying5 Tryz.underlying9 h,zaK]
def QpP (base : Nat) (bs:List Int) (v:Value) (W:World):Prop:=∃ (g:Nat) (cur:Array Value),v=.slice (some ⟨g,0,none⟩) bs.length bs.length∧Qpa base g bs.length cur bs W
end Own
end
section
namespace Own
open Go Go.RowKit
open Rely Auto
def OwnV (base : Nat) (bs:List Int) (v:Value) (W:World):Prop:=(v=.slice none 0 0∧bs=[])∨OwnB base bs v W
def Went (v v':Value) (W W':World):Prop:=(∃ g n c,v=.slice (some ⟨g,0,none⟩) n c∧(∃ n',v'=.slice (some ⟨g,0,none⟩) n' c)∧ExtB g W W')∨((∃ g,v'.ownBlock=some g∧W.heap.size≤g)∧Ext W W')
end Own
end
section
namespace Auto
open Go Go.RowKit
open Rely Own
variable {ds : List Deferred}
inductive KE where
  | is (v:Value)
  | ex (φ:Fact)
def KE.fact : KE→Fact
  | .is c=>fun v _=>v=c
  | .ex φ=>φ
def KE.kn : KE→Kn
  | .is c=>.is c
  | .ex _=>.new #[] 0
structure Rl (R : World → World → Prop) (w0 : World) : Prop where
  refl:∀ W,R W W
  trans:∀ {a b c:World},R a b→R b c→R a c
  ext:∀ {a b:World},w0.heap.size≤a.heap.size→Ext a b→R a b
  low:∀ {W:World},R w0 W→Ext w0 W
theorem Qam (w0 : World):Rl Ext w0:=⟨zb1,zb2,fun _ h=>h,fun h=>h⟩
def KE.ok (R : World→World→Prop):KE→Prop
  | .is _=>True
  | .ex φ=>Qb2 R φ
theorem KE.stable {R : World→World→Prop} {k:KE} (h:k.ok R):Qb2 R k.fact:=by
  cases k with
  | is c=>exact fun _ _ _ _ h=>h
  | ex φ=>exact h
theorem Qiu {r0 : Tmp→Value} {C:List KE} {ρ:Tmp→Value} {W:World}:∀ (r:List (Tmp×Option Nat)),(r.all fun x=>match x.2 with | some i=>(match (C.map KE.kn)[i]? with | some (.is _)=>true | _=>false) | none=>true)=true →
    Qcz r0 (C.map KE.fact) ρ W r→Qcz r0 ((C.map KE.kn).map (Kn.fact 0)) ρ W r
  | [],_,_=>trivial
  | (t,none)::r,ha,h=>by
    simp only [za9,Bool.and_eq_true] at ha
    exact ⟨h.1,Qiu r ha.2 h.2⟩
  | (t,some i)::r,ha,h=>by
    simp only [za9,Bool.and_eq_true] at ha
    refine ⟨?_,Qiu r ha.2 h.2⟩
    have h1:=h.1
    have h2:=ha.1
    simp only [zaX] at h2
    cases hc:C[i]? with
    | none=>simp [hc] at h2
    | some k =>
      cases k with
      | ex φ=>simp [hc,KE.kn] at h2
      | is c =>
        simp only [zaF,zaX,hc,zaY,zaC,KE.fact] at h1
        simp [zaF,hc,KE.kn,Kn.fact,h1]
def Qbn (P : Program) (R:World→World→Prop) (w0:World) (N:Nat) (L:Env) (F:List KE→Prop):List Oper→List Src→List KE→Prop
  | o::os,s::ss,C=>∃ k:KE,k.ok R∧opOk P R w0 (envN N L) (C.map KE.fact) o s k.fact∧Qbn P R w0 N L F os ss (C++[k])
  | _,_,C=>F C
theorem Qci {P : Program} {R:World→World→Prop} {w0:World} {N:Nat} {L:Env} {F:List KE→Prop} {G:List Fact→Prop} (hFG:∀ C,F C→G (C.map KE.fact)):∀ (os:List Oper) (ss:List Src) (C:List KE),Qbn P R w0 N L F os ss C→relies P R w0 (envN N L) G os ss (C.map KE.fact)
  | [],_,C,h=>hFG C (by simpa [Qbn] using h)
  | _::_,[],C,h=>hFG C (by simpa [Qbn] using h)
  | o::os,s::ss,C,⟨k,h0,h1,h2⟩=>by
    refine ⟨k.fact,KE.stable h0,h1,?_⟩
    have:=Qci hFG os ss (C++[k]) h2
    simpa using this
section
variable {P : Program} {R : World → World → Prop} {w0 : World} {N : Nat} {L : Env} {F : List KE → Prop} {o : Oper} {os : List Oper} {s : Src} {ss : List Src} {C : List KE}
theorem e_op (hRl : Rl R w0) (k:KE) (hk0:k.ok R) (hs:seen (C.map KE.kn) o s=true) (hg:gOk s.guard (get (envS N L ((C.map KE.kn).map zb3) s.reads))=true)
    (h:∀ W,R w0 W→Qca P R W k.fact ((execOp (Rely.look (get (envS N L ((C.map KE.kn).map zb3) s.reads))) o).run P W))
    (hk:Qbn P R w0 N L F os ss (C++[k])):Qbn P R w0 N L F (o::os) (s::ss) C :=
  ⟨k,hk0,fun ρ W hR hh=>by
    have hh':Qcz (envN N L) ((C.map KE.kn).map (Kn.fact 0)) ρ W s.reads:=by
      refine Qiu s.reads ?_ hh
      have:=hs
      simp only [seen,Bool.and_eq_true] at this
      exact this.1.1.2
    rw [Qcr hs hh']
    refine Qcc hg ?_
    unfold QcI
    rw [QcU hs hh']
    exact h W hR,hk⟩
theorem Qa2 (hRl : Rl R w0) (v:Value) (hs:seen (C.map KE.kn) o s=true) (hg:gOk s.guard (get (envS N L ((C.map KE.kn).map zb3) s.reads))=true)
    (h:∀ W,(execOp (Rely.look (get (envS N L ((C.map KE.kn).map zb3) s.reads))) o).run P W=.ok (.value v) W)
    (hk:Qbn P R w0 N L F os ss (C++[.is v])):Qbn P R w0 N L F (o::os) (s::ss) C :=
  e_op hRl (.is v) trivial hs hg (fun W _=>by rw [h]; exact ⟨hRl.refl _,rfl⟩) hk
theorem QaN (hRl : Rl R w0) (v:Value) (hs:seen (C.map KE.kn) o s=true) (hg:gOk s.guard (get (envS N L ((C.map KE.kn).map zb3) s.reads))=true)
    (h:∀ W,Ext w0 W→(execOp (Rely.look (get (envS N L ((C.map KE.kn).map zb3) s.reads))) o).run P W=.ok (.value v) W)
    (hk:Qbn P R w0 N L F os ss (C++[.is v])):Qbn P R w0 N L F (o::os) (s::ss) C :=
  e_op hRl (.is v) trivial hs hg (fun W hR=>by rw [h W (hRl.low hR)]; exact ⟨hRl.refl _,rfl⟩) hk
theorem QhV {A B:World→World→Prop} {W W':World} {φ:Fact} {e:Ending} (h:Qhl A W φ e W') (hAB:A W W'→B W W'):Qhl B W φ e W':=by
  obtain ⟨v,h1,h2,h3⟩:=h
  exact ⟨v,h1,hAB h2,h3⟩
theorem Qdn (hRl : Rl R w0) (v:Value) (f:FuncId) (args:Array Value) (hs:seen (C.map KE.kn) o s=true) (hg:gOk s.guard (get (envS N L ((C.map KE.kn).map zb3) s.reads))=true)
    (h:∀ W,(execOp (Rely.look (get (envS N L ((C.map KE.kn).map zb3) s.reads))) o).run P W=.ok (.enter f args) W) (hc:∀ W,Ext w0 W→Calls P f args W (Ret W v))
    (hk:Qbn P R w0 N L F os ss (C++[.is v])):Qbn P R w0 N L F (o::os) (s::ss) C :=
  e_op hRl (.is v) trivial hs hg (fun W hR=>by
    rw [h]
    exact ⟨hRl.refl _,(hc W (hRl.low hR)).mono fun _ _ h=>QhV h.const (hRl.ext (hRl.low hR).size)⟩) hk
theorem Qfv (hRl : Rl R w0) (φ:Fact) (hφ:Qb2 R φ) (f:FuncId) (args:Array Value) (hs:seen (C.map KE.kn) o s=true) (hg:gOk s.guard (get (envS N L ((C.map KE.kn).map zb3) s.reads))=true)
    (h:∀ W,(execOp (Rely.look (get (envS N L ((C.map KE.kn).map zb3) s.reads))) o).run P W=.ok (.enter f args) W) (hc:∀ W,Ext w0 W→Calls P f args W (Qby W φ))
    (hk:Qbn P R w0 N L F os ss (C++[.ex φ])):Qbn P R w0 N L F (o::os) (s::ss) C :=
  e_op hRl (.ex φ) hφ hs hg (fun W hR=>by
    rw [h]
    exact ⟨hRl.refl _,(hc W (hRl.low hR)).mono fun _ _ h=>QhV h.fact (hRl.ext (hRl.low hR).size)⟩) hk
theorem Qi0 (hRl : Rl R w0) (φ:Fact) (hφ:Qb2 R φ) (f:FuncId) {rd:List (Tmp×Option Nat)}
    (h:∀ (ρ:Tmp→Value) (W:World),Ext w0 W→Qcz (envN N L) (C.map KE.fact) ρ W rd→∃ args,(execOp (Rely.look ρ) o).run P W=.ok (.enter f args) W∧Calls P f args W (Qby W φ))
    (hk:Qbn P R w0 N L F os ss (C++[.ex φ])):Qbn P R w0 N L F (o::os) (⟨none,rd⟩::ss) C :=
  ⟨.ex φ,hφ,fun ρ W hR hh=>by
    obtain ⟨args,h1,h2⟩:=h ρ W (hRl.low hR) hh
    show Qca _ _ _ _ _
    rw [h1]
    exact ⟨hRl.refl _,h2.mono fun _ _ h=>QhV h.fact (hRl.ext (hRl.low hR).size)⟩,hk⟩
theorem Qhg (hRl : Rl R w0) (φ:Fact) (hφ:Qb2 R φ) {rd:List (Tmp×Option Nat)}
    (h:∀ (ρ:Tmp→Value) (W:World),Ext w0 W→Qcz (envN N L) (C.map KE.fact) ρ W rd→∃ v W',(execOp (Rely.look ρ) o).run P W=.ok (.value v) W'∧R W W'∧φ v W')
    (hk:Qbn P R w0 N L F os ss (C++[.ex φ])):Qbn P R w0 N L F (o::os) (⟨none,rd⟩::ss) C :=
  ⟨.ex φ,hφ,fun ρ W hR hh=>by
    obtain ⟨v,W',h1,h2,h3⟩:=h ρ W (hRl.low hR) hh
    show Qca _ _ _ _ _
    rw [h1]
    exact ⟨h2,h3⟩,hk⟩
def NewS (base : Nat) (cs:Array Value) (T:TypeId) (n:Nat):Fact:=fun v W=>∃ g,v=.slice (some ⟨g,0,none⟩) n n∧base≤g∧W.heap[g]? = some (.cells cs T)
theorem NewS.stable (base : Nat) (cs:Array Value) (T:TypeId) (n:Nat):Qb2 Ext (NewS base cs T n):=fun _ _ _ hR ⟨g,h1,h2,h3⟩=>⟨g,h1,h2,Qaa h3 hR⟩
theorem QkF (hRl : Rl R w0) (cs:Array Value) (T:TypeId) (n:Nat) (hst:Qb2 R (NewS w0.heap.size cs T n)) (hs:seen (C.map KE.kn) o s=true) (hg:gOk s.guard (get (envS N L ((C.map KE.kn).map zb3) s.reads))=true)
    (h:∀ W,(execOp (Rely.look (get (envS N L ((C.map KE.kn).map zb3) s.reads))) o).run P W=.ok (.value (.slice (some ⟨W.heap.size,0,none⟩) n n)) (W.alloc (.cells cs T)))
    (hk:Qbn P R w0 N L F os ss (C++[.ex (NewS w0.heap.size cs T n)])):Qbn P R w0 N L F (o::os) (s::ss) C :=
  e_op hRl (.ex (NewS w0.heap.size cs T n)) hst hs hg (fun W hR=>by
    rw [h]
    exact ⟨hRl.ext (hRl.low hR).size (Qbi _ _),_,rfl,(hRl.low hR).size,heap_alloc_new _ _⟩) hk
def NewP (base : Nat) (cs:Array Value) (T:TypeId):Fact:=fun v W=>∃ g,v=pp g 0∧base≤g∧W.heap[g]? = some (.cells cs T)
theorem NewP.stable (base : Nat) (cs:Array Value) (T:TypeId):Qb2 Ext (NewP base cs T):=fun _ _ _ hR ⟨g,h1,h2,h3⟩=>⟨g,h1,h2,Qaa h3 hR⟩
theorem QoR (hRl : Rl R w0) (cs:Array Value) (T:TypeId) (hst:Qb2 R (NewP w0.heap.size cs T)) (hs:seen (C.map KE.kn) o s=true) (hg:gOk s.guard (get (envS N L ((C.map KE.kn).map zb3) s.reads))=true)
    (h:∀ W,(execOp (Rely.look (get (envS N L ((C.map KE.kn).map zb3) s.reads))) o).run P W=.ok (.value (pp W.heap.size 0)) (W.alloc (.cells cs T)))
    (hk:Qbn P R w0 N L F os ss (C++[.ex (NewP w0.heap.size cs T)])):Qbn P R w0 N L F (o::os) (s::ss) C :=
  e_op hRl (.ex (NewP w0.heap.size cs T)) hst hs hg (fun W hR=>by
    rw [h]
    exact ⟨hRl.ext (hRl.low hR).size (Qbi _ _),_,rfl,(hRl.low hR).size,heap_alloc_new _ _⟩) hk
theorem Qc3 (h : F C):Qbn P R w0 N L F [] ss C:=by cases ss <;> exact h
end
def finE (Q : Env→World→Prop):List Oper→List KE→Env→World→Prop
  | o::os,.is c::C,L,W=>finE Q os C (up o.dst c L) W
  | o::os,.ex φ::C,L,W=>∀ v,φ v W→finE Q os C (up o.dst v L) W
  | _,_,L,W=>Q L W
theorem Qjj {Q : Act→World→Prop} {N:Nat} {W:World}:∀ (os:List Oper) (C:List KE) (L:Env),finE (fun L W=>Q (Qav ds N L) W) os C L W→fin Q os (C.map KE.fact) (Qav ds N L) W
  | [],C,L,h=>by cases C <;> exact h
  | _::_,[],L,h=>h
  | o::os,.is c::C,L,h=>by
    intro v hv
    obtain rfl:v=c:=hv
    rw [QgJ]
    exact Qjj os C _ h
  | o::os,.ex φ::C,L,h=>by
    intro v hv
    rw [QgJ]
    exact Qjj os C _ (h v hv)
theorem QcZ {Q Q':Env→World→Prop} (h:∀ L W,Q L W→Q' L W):∀ (os:List Oper) (C:List KE) (L:Env) (W:World),finE Q os C L W→finE Q' os C L W
  | [],C,L,W,k=>by cases C <;> exact h _ _ k
  | _::_,[],L,W,k=>h _ _ k
  | o::os,.is c::C,L,W,k=>QcZ h os C _ W k
  | o::os,.ex φ::C,L,W,k=>fun v hv=>QcZ h os C _ W (k v hv)
theorem QhI {P : Program} {id:Nat} {Q:Exit→Act→World→Prop} {N:Nat} {L:Env} {w:World} {l:List Oper} (R:World→World→Prop) (hRl:Rl R w.drew) (n:Nat) (S:List Src) (hm:P.follows .mixedOrders=true) (hok:ok l n N S=true)
    (h:∀ F:List KE→Prop,(∀ C,(∀ W,R w.drew W→finE (fun L W=>WL P l.toArray Q (l.drop n) (Qav ds N L) W) (l.take n) C L W)→F C)→Qbn P R w.drew N L F (l.take n) S []) :
    (zaD id l.toArray true).wp P Q (Qav ds N L) w:=by
  refine QcQ R n N S hm hok (Qc8 N L) hRl.refl (fun a b=>hRl.trans a b) fun F r0 hr hF=>?_
  rw [QbF] at hr
  subst hr
  have:=h (fun C=>∀ W,R w.drew W→finE (fun L W=>WL P l.toArray Q (l.drop n) (Qav ds N L) W) (l.take n) C L W) (fun C h=>h)
  exact Qci (G:=F) (fun C h=>hF.out fun W hR=>Qjj (Q:=fun a W=>wpList P l.toArray Q (l.drop n) a W) _ _ _ (QcZ (fun L W h=>h.out) _ _ _ _ (h W hR))) _ _ [] this
theorem QaT {P : Program} {id:Nat} {Q:Exit→Act→World→Prop} {N:Nat} {L:Env} {w:World} {l:List Oper} (n:Nat) (S:List Src) (hm:P.follows .mixedOrders=true) (hok:ok l n N S=true)
    (h:∀ F:List KE→Prop,(∀ C,(∀ W,Ext w W→finE (fun L W=>WL P l.toArray Q (l.drop n) (Qav ds N L) W) (l.take n) C L W)→F C)→Qbn P Ext w.drew N L F (l.take n) S []) :
    (zaD id l.toArray true).wp P Q (Qav ds N L) w :=
  QhI Ext (Qam _) n S hm hok fun F hF=>h F fun C hC=>hF C fun W hR=>hC W (zb2 (Qan w) hR)
def OwnN (k : IntKind) (T:TypeId) (base:Nat) (xs:List Int) (v:Value) (W:World):Prop:=W.ownsRow base T 1 v xs.length (xs.map (zaH k))∧xs.length≤maxLen
theorem QdU {k : IntKind} {T:TypeId} {base:Nat} {xs:List Int} {v:Value} {W:World} (h:OwnN k T base xs v W) (h0:0<xs.length) :
    ∃ g c cur,v=.slice (some ⟨g,0,none⟩) xs.length c∧base≤g∧W.heap[g]? = some (.cells cur T)∧cur.size=c∧xs.length≤c∧c≤maxLen∧cur.toList.take xs.length=xs.map (zaH k):=by
  rcases h.1.2 with ⟨_,h1⟩ | ⟨g,c,cur,h1,h2,h3,h4,h5,h6,h7⟩
  · omega
  · exact ⟨g,c,cur,h1,h2,h3,by omega,h4,h5,by simpa using h7⟩
theorem Qb5 (k : IntKind) (T:TypeId) (base:Nat) (W:World):OwnN k T base [] (.slice none 0 0) W:=⟨⟨rfl,.inl ⟨rfl,rfl⟩⟩,zaV _⟩
theorem Qb3 {k : IntKind} {T:TypeId} {base g n:Nat} {xs:List Int} {W:World} (hn:xs.length=n) (hb:base≤g) (r:W.heap[g]? = some (.cells (ints k xs) T)) (hm:n≤maxLen):OwnN k T base xs (.slice (some ⟨g,0,none⟩) n n) W:=by
  subst hn
  exact ⟨⟨by simp,.inr ⟨g,_,_,rfl,hb,r,qR _,hm,by simp [ints],by rw [zaI,List.take_of_length_le] <;> simp [ints]⟩⟩,hm⟩
theorem Qgi {k : IntKind} {T:TypeId} {base g n c:Nat} {cur:Array Value} {xs:List Int} {W:World} (hn:xs.length=n) (hb:base≤g) (r:W.heap[g]? = some (.cells cur T)) (hc:cur.size=c) (hle:n≤c) (hm:c≤maxLen) (ht:cur.toList.take n=xs.map (zaH k)):OwnN k T base xs (.slice (some ⟨g,0,none⟩) n c) W:=by
  subst hn
  exact ⟨⟨by simp,.inr ⟨g,_,_,rfl,hb,r,hle,hm,by omega,by rw [zaI]; exact ht⟩⟩,qT hle hm⟩
theorem OwnN.keep {k : IntKind} {T:TypeId} {base:Nat} {xs:List Int} {v:Value} {W W':World} (h:OwnN k T base xs v W) (hk:∀ g,v.ownBlock=some g→W'.heap[g]? = W.heap[g]?):OwnN k T base xs v W':=by
  obtain ⟨⟨h1,h2⟩,hm⟩:=h
  refine ⟨⟨h1,?_⟩,hm⟩
  rcases h2 with h2 | ⟨g,c,cur,rfl,q2,q3,q4,q5,q6,q7⟩
  · exact .inl h2
  · exact .inr ⟨g,c,cur,rfl,q2,(hk g rfl).trans q3,q4,q5,q6,q7⟩
theorem OwnN.lt {k : IntKind} {T:TypeId} {base:Nat} {xs:List Int} {v:Value} {W:World} (h:OwnN k T base xs v W) {g:Nat} (hg:v.ownBlock=some g):g<W.heap.size:=by
  rcases h.1.2 with ⟨rfl,_⟩ | ⟨g',c,cur,rfl,q2,q3,_⟩
  · cases hg
  · obtain rfl:g'=g:=Option.some.inj hg
    exact Qaq q3
theorem OwnN.ge {k : IntKind} {T:TypeId} {base:Nat} {xs:List Int} {v:Value} {W:World} (h:OwnN k T base xs v W) {g:Nat} (hg:v.ownBlock=some g):base≤g:=by
  rcases h.1.2 with ⟨rfl,_⟩ | ⟨g',c,cur,rfl,q2,q3,_⟩
  · cases hg
  · obtain rfl:g'=g:=Option.some.inj hg
    exact q2
theorem OwnN.ext {k : IntKind} {T:TypeId} {base:Nat} {xs:List Int} {v:Value} {W W':World} (h:OwnN k T base xs v W) (e:Ext W W'):OwnN k T base xs v W':=h.keep fun g hg=>e.block g (h.lt hg)
theorem OwnN.stable (k : IntKind) (T:TypeId) (base:Nat) (xs:List Int):Qb2 Ext (OwnN k T base xs):=fun _ _ _ hR h=>h.ext hR
theorem OwnN.base {k : IntKind} {T:TypeId} {a b:Nat} {xs:List Int} {v:Value} {W:World} (hab:a≤b) (h:OwnN k T b xs v W):OwnN k T a xs v W:=by
  obtain ⟨⟨h1,h2⟩,hm⟩:=h
  refine ⟨⟨h1,?_⟩,hm⟩
  rcases h2 with h2 | ⟨g,c,cur,rfl,q2,q3,q4,q5,q6,q7⟩
  · exact .inl h2
  · exact .inr ⟨g,c,cur,rfl,qT hab q2,q3,q4,q5,q6,q7⟩
def RdK (k : IntKind) (B:Nat) (ys:List Int) (v:Value) (W:World):Prop:=∃ a cap,v=.slice a ys.length cap∧ys.length≤cap∧cap≤maxLen∧(a=none→cap=0)∧(ys=[]∨∃ g o,a=some ⟨g,o,none⟩∧g<B∧g<W.heap.size∧∀ i,i<ys.length→W.cell? ⟨g,o+i,none⟩=some (.int k (nth ys i)))
theorem RdK.keep {k : IntKind} {B:Nat} {ys:List Int} {v:Value} {W W':World} (h:RdK k B ys v W) (hs:W.heap.size≤W'.heap.size) (hk:∀ g,g<B→g<W.heap.size→W'.heap[g]? = W.heap[g]?):RdK k B ys v W':=by
  obtain ⟨a,cap,h1,h2,h3,h4,h5⟩:=h
  refine ⟨a,cap,h1,h2,h3,h4,h5.imp id ?_⟩
  rintro ⟨g,o,q1,q2,q3,q4⟩
  refine ⟨g,o,q1,q2,qL q3 hs,fun i hi=>?_⟩
  rw [←q4 i hi]
  exact zbn (hk g q2 q3)
theorem RdK.ext {k : IntKind} {B:Nat} {ys:List Int} {v:Value} {W W':World} (h:RdK k B ys v W) (e:Ext W W'):RdK k B ys v W':=h.keep e.size fun g _ hl=>e.block g hl
theorem RdK.extB {k : IntKind} {B g:Nat} {ys:List Int} {v:Value} {W W':World} (h:RdK k B ys v W) (e:ExtB g W W') (hg:B≤g):RdK k B ys v W':=h.keep e.2.2.2.1 fun i hi hl=>e.2.2.2.2 i hl oo
theorem RdK.more {k : IntKind} {A B:Nat} {ys:List Int} {v:Value} {W:World} (h:RdK k A ys v W) (hB:A≤B):RdK k B ys v W:=by
  obtain ⟨a,cap,h1,h2,h3,h4,h5⟩:=h
  exact ⟨a,cap,h1,h2,h3,h4,h5.imp id fun ⟨g,o,q1,q2,q3⟩=>⟨g,o,q1,by omega,q3⟩⟩
theorem RdK.len {k : IntKind} {B:Nat} {ys:List Int} {v:Value} {W:World} (h:RdK k B ys v W):ys.length≤maxLen:=by
  obtain ⟨a,cap,h1,h2,h3,h4⟩:=h
  omega
theorem QdF {k : IntKind} {cur:Array Value} {xs:List Int} (h:cur.toList.take xs.length=xs.map (zaH k)) {i:Nat} (hi:i<xs.length):cur[i]? = some (.int k (nth xs i)):=by
  have e:(cur.toList.take xs.length)[i]? = (xs.map (zaH k))[i]?:=by rw [h]
  rw [zbo hi,zaX,zaG hi] at e
  rw [←Array.getElem?_toList,e]
  simp [nth,hi]
theorem OwnN.rd {k : IntKind} {T:TypeId} {base:Nat} {xs:List Int} {v:Value} {W:World} (h:OwnN k T base xs v W):RdK k W.heap.size xs v W:=by
  rcases h.1.2 with ⟨rfl,h0⟩ | ⟨g,c,cur,rfl,q2,q3,q4,q5,q6,q7⟩
  · have:xs=[]:=zbp.1 h0
    subst this
    exact ⟨none,0,rfl,qR _,zaV _,fun _=>rfl,.inl rfl⟩
  · refine ⟨_,_,rfl,q4,q5,(fun h=>by cases h),.inr ⟨g,0,rfl,Qaq q3,Qaq q3,fun i hi=>?_⟩⟩
    rw [za5]
    exact Qdc q3 (QdF (by simpa using q7) hi)
theorem Qeq {k : IntKind} {T:TypeId} {B g n c:Nat} {cs:Array Value} {xs:List Int} {W:World} (o:Nat) (hn:xs.length=n) (r:W.heap[g]? = some (.cells cs T)) (hc:∀ i,i<n→cs[o+i]? = some (.int k (nth xs i))) (hB:g<B) (hle:n≤c) (hm:c≤maxLen):RdK k B xs (.slice (some ⟨g,o,none⟩) n c) W:=by
  subst hn
  exact ⟨_,_,rfl,hle,hm,(fun h=>by cases h),.inr ⟨g,o,rfl,hB,Qaq r,fun i hi=>Qdc r (hc i hi)⟩⟩
theorem QaL {k : IntKind} {T:TypeId} {B g n:Nat} {xs:List Int} {W:World} (hn:xs.length=n) (r:W.heap[g]? = some (.cells (ints k xs) T)) (hB:g<B) (hm:n≤maxLen):RdK k B xs (.slice (some ⟨g,0,none⟩) n n) W :=
  Qeq 0 hn r (fun i hi=>by rw [za5]; exact QaD k xs i oo) hB (qR _) hm
theorem RdK.bytes {B : Nat} {ys:List Int} {v:Value} {W:World} (h:RdK .u8 B ys v W) (hb:Qak ys):QhJ W v ys:=by
  obtain ⟨a,cap,rfl,h2,h3,h4,h5⟩:=h
  refine ⟨a,cap,rfl,by omega,hb,?_⟩
  rcases h5 with rfl | ⟨g,o,q1,q2,q3,q4⟩
  · exact .inl rfl
  · exact .inr ⟨g,o,q1,q3,q4⟩
theorem QlJ {P : Program} {k:IntKind} {T:TypeId} {b:Nat} (hi:(P.info? T).map (fun i=>(i.zero,i.size,i.bytes))=some (some (.int k 0),1,b)):∃ i,P.info? T=some i∧i.zero=some (.int k 0)∧i.size=1∧i.bytes=b:=by
  cases hq:P.info? T with
  | none=>rw [hq] at hi; cases hi
  | some i =>
    rw [hq] at hi
    simp only [zaY,Option.some.injEq,Prod.mk.injEq] at hi
    exact ⟨i,rfl,hi.1,hi.2.1,hi.2.2⟩
theorem Qh3 (k : IntKind) (bs:List Int):∀ u∈bs.map (zaH k),u.oneCell'=true:=fun u hu=>by
  obtain ⟨x,_,rfl⟩:=zaZ.1 hu
  rfl
theorem Qh7 {k : IntKind} {g o:Nat} {ys:List Int} {W:World} (h:∀ i,i<ys.length→W.cell? ⟨g,o+i,none⟩=some (.int k (nth ys i))):∀ j u,(ys.map (zaH k))[j]? = some u→W.cell? ((⟨g,o,none⟩:Addr).add j)=some u:=fun j u hu=>by
  have hj:j<ys.length:=by
    rcases zau j ys.length with hj | hj
    · exact hj
    · rw [za3 (by simpa using hj)] at hu; cases hu
  rw [WideShapes.add_plain,h j hj,←hu,zaX,zaG hj]
  simp [nth,hj]
theorem Qdk {P : Program} {k:IntKind} {T:TypeId} {b:Nat} {ρ:Operand→Value} {o:Oper} {W:World} (s x:Operand) (t:TypeId) (ho:o.op=.call { callee:=.builtin .append,args:=#[s,x],argTypes:=#[t,t] })
    (ht:P.underlying t=some (.slice T)) (hi:(P.info? T).map (fun i=>(i.zero,i.size,i.bytes))=some (some (.int k 0),1,b)) (hb8:b≤8) {base B:Nat} {v y:Value} {xs ys:List Int} (hs:ρ s=v) (hx:ρ x=y)
    (h:OwnN k T base xs v W) (hy:RdK k B ys y W) (hn:xs.length+ys.length≤1000000000) (hbase:base≤W.heap.size) :
    ∃ v' W',(execOp ρ o).run P W=.ok (.value v') W'∧OwnN k T base (xs++ys) v' W'∧W.grownBy W' v.ownBlock∧(v'.ownBlock=v.ownBlock∨v'.ownBlock=some W.heap.size):=by
  obtain ⟨i,hq,hi1,hi2,hi3⟩:=QlJ hi
  obtain ⟨a,cap,rfl,y2,y3,y4,y5⟩:=hy
  have hgo:∀ (v':Value) (W':World),(Builtin.append_ #[t,t] o.type #[v,.slice a ys.length cap]).run P W=.ok v' W'→(execOp ρ o).run P W=.ok (.value v') W':=fun v' W' hr=>by
    unfold execOp
    simp only [ho,resolve,invoke,builtin,zaJ,zaW,zaK,List.map_toArray,List.map_cons,List.map_nil,hs,hx,hr]
  cases a with
  | none =>
    have hc0:=y4 rfl
    subst hc0
    have hy0:ys=[]:=zbp.1 oo
    subst hy0
    refine ⟨v,W,hgo _ _ (run_append_owned_none (P:=P) W base t o.type T i 1 ht hq v xs.length _ h.1),by rw [List.append_nil]; exact h,⟨rfl,rfl,rfl,qR _,fun _ _ _=>rfl⟩,.inl rfl⟩
  | some a =>
    have hnews:∀ j u,(ys.map (zaH k))[j]? = some u→W.cell? (a.add j)=some u:=by
      rcases y5 with rfl | ⟨g,o,q1,q2,q3,q4⟩
      · intro j u hu; simp at hu
      · obtain rfl:=Option.some.inj q1
        exact Qh7 q4
    obtain ⟨v',W',hr,h2,h3,_,h5⟩:=run_append_own_at (P:=P) W base t o.type T i (.int k 0) 1 b ht hq hi1 hi2 hi3 rfl oo v xs.length (xs.map (zaH k)) h.1 a ys.length cap (ys.map (zaH k)) (by simp)
      hnews (Qh3 k ys) (by simp only [maxLen]; omega) (by
        have:(xs.length+ys.length)*b≤1000000000*8:=Nat.mul_le_mul hn hb8
        omega) hbase
    refine ⟨v',W',hgo _ _ hr,⟨by rw [zbq,zba]; exact h2,by rw [zbq]; simp only [maxLen]; omega⟩,h3,h5⟩
theorem Qft {k : IntKind} {T:TypeId} {xs:List Int} {v:Value} {V W W':World} (e:Ext V W) (h:OwnN k T V.heap.size xs v W) (g:W.grownBy W' v.ownBlock):Ext V W' :=
  ⟨g.os.trans e.os,g.tape.trans e.tape,g.output.trans e.output,qT e.size g.size,fun i hi=>(g.block i (qL hi e.size) (fun q=>by have:=h.ge q.symm; omega)).trans (e.block i hi)⟩
section
variable {P : Program} {ops : Array Oper} {Q : Exit → Act → World → Prop} {rest : List Oper} {o : Oper} {N : Nat} {L : Env} {W : World}
theorem QaH {k : IntKind} {T:TypeId} (b:Nat) (s x:Operand) (t:TypeId) (ho:o.op=.call { callee:=.builtin .append,args:=#[s,x],argTypes:=#[t,t] })
    (ht:P.underlying t=some (.slice T)) (hi:(P.info? T).map (fun i=>(i.zero,i.size,i.bytes))=some (some (.int k 0),1,b)) (hb8:b≤8) (d:Nat) (hd:o.dst=some d) (hg:Qbp ops o N L=some true) {B:Nat} {v y:Value} {xs ys:List Int} {V:World}
    (hs:Rely.look (envN N L) s=v) (hx:Rely.look (envN N L) x=y)
    (h:OwnN k T V.heap.size xs v W) (hy:RdK k B ys y W) (hn:xs.length+ys.length≤1000000000) (hV:Ext V W)
    (kk:∀ (u:Value) (W':World),OwnN k T V.heap.size (xs++ys) u W'→Ext V W'→Below V.heap.size W W'→WL P ops Q rest (Qav ds N ((d,u)::L)) W'):WL P ops Q (o::rest) (Qav ds N L) W:=by
  obtain ⟨v',W',h1,h2,h3,h4⟩:=Qdk (ρ:=Rely.look (envN N L)) (o:=o) (W:=W) s x t ho ht hi hb8 hs hx h hy hn hV.size
  exact Qbs _ _ d hd hg h1 (kk v' W' h2 (Qft hV h h3) ⟨h3.os,h3.tape,h3.output,h3.size,fun i hi=>h3.block i (qL hi hV.size) (fun q=>by have:=h.ge q.symm; omega)⟩)
end
section
variable {P : Program} {ρ : Operand → Value} {o : Oper} {w : World}
theorem QbA (t : TypeId) (x:Operand) (lo hi:Option Operand) (l h n g off:Nat) (e:TypeId) (ho:o.op=.slice t x lo hi none) (hx:ρ x=pp g off)
    (hu:P.underlying t=some (.array n e)) (hs:(P.info? e).map (·.size)=some 1) (hl:(match lo with | some y=>∃ k,ρ y=.int k (l:Int) | none=>l=0)) (hh:(match hi with | some y=>∃ k,ρ y=.int k (h:Int) | none=>h=n)) (h1:l≤h) (h2:h≤n) (h3:l<n) :
    (execOp ρ o).run P w=.ok (.value (.slice (some ⟨g,off+l,none⟩) (h-l) (n-l))) w:=by
  cases hq:P.info? e with
  | none=>simp [hq] at hs
  | some i =>
    have hs':i.size=1:=by simpa [hq] using hs
    have hadd:(⟨g,off,none⟩:Addr).add l=⟨g,off+l,none⟩:=WideShapes.add_plain ..
    have hne:¬ n=l:=by omega
    unfold execOp
    cases lo with
    | none =>
      subst hl
      cases hi with
      | none =>
        subst hh
        simp [ho,hx,Instr.sliceAt,Instr.sureAddr,Instr.sliceBounds,run_underlying hu,sizeOf,typeInfo,hq,hs',hadd,hne]
      | some y =>
        obtain ⟨k,hy⟩:=hh
        simp [ho,hx,hy,Instr.sliceAt,Instr.sureAddr,Instr.sliceBounds,run_sliceBound,run_underlying hu,sizeOf,typeInfo,hq,hs',hadd,hne,h2]
    | some z =>
      obtain ⟨k',hz⟩:=hl
      cases hi with
      | none =>
        subst hh
        simp [ho,hx,hz,Instr.sliceAt,Instr.sureAddr,Instr.sliceBounds,run_sliceBound,run_underlying hu,sizeOf,typeInfo,hq,hs',hadd,hne,h1]
      | some y =>
        obtain ⟨k,hy⟩:=hh
        simp [ho,hx,hy,hz,Instr.sliceAt,Instr.sureAddr,Instr.sliceBounds,run_sliceBound,run_underlying hu,sizeOf,typeInfo,hq,hs',hadd,hne,h1,h2]
theorem Qgc {k : IntKind} {B:Nat} {ys:List Int} {v:Value} (t:TypeId) (x z:Operand) (l:Nat) (e:TypeId) (ho:o.op=.slice t x (some z) none none) (hx:ρ x=v) (hv:RdK k B ys v w)
    (hu:P.underlying t=some (.slice e)) (hs:(P.info? e).map (·.size)=some 1) (kz:IntKind) (hz:ρ z=.int kz (l:Int)) (h1:l≤ys.length) :
    ∃ u,(execOp ρ o).run P w=.ok (.value u) w∧RdK k B (ys.drop l) u w∧u.ownBlock=v.ownBlock:=by
  obtain ⟨a,cap,rfl,y2,y3,y4,y5⟩:=hv
  cases hq:P.info? e with
  | none=>simp [hq] at hs
  | some i =>
    have hs':i.size=1:=by simpa [hq] using hs
    refine ⟨.slice (if cap=l then a else a.map (·.add l)) (ys.length-l) (cap-l),?_,?_⟩
    · unfold execOp
      simp [ho,hx,hz,Instr.sliceAt,Instr.slice,Instr.sliceBounds,run_sliceBound,run_underlying hu,sizeOf,typeInfo,hq,hs',h1]
    · refine ⟨⟨_,_,by rw [zbr],by rw [zbr]; omega,by omega,fun h=>?_,?_⟩,?_⟩
      · cases a with
        | none=>have:=y4 rfl; omega
        | some a=>split at h <;> simp at h
      rotate_left
      · cases a with
        | none=>split <;> rfl
        | some a =>
          split
          · rfl
          · have e:∀ a:Addr,(a.add l).block=a.block:=fun a=>by unfold Addr.add; split <;> rfl
            exact congrArg some (e a)
      · rcases y5 with rfl | ⟨g,off,rfl,q2,q3,q4⟩
        · exact .inl (by simp)
        · by_cases hl:l=ys.length
          · exact .inl (by rw [hl]; simp)
          · refine .inr ⟨g,off+l,?_,q2,q3,fun i hi=>?_⟩
            · rw [if_neg oo,zaY,WideShapes.add_plain]
            · rw [zbr] at hi
              rw [Nat.add_assoc,q4 (l+i) oo]
              simp [nth]
end
end Auto
end
section
namespace Sha
open Go Go.RowKit
open Rely Auto
abbrev Wd := BitVec 32
def wv (x : Wd):Int:=(x.toNat:Int)
def rr (x : Wd) (n:Nat):Wd:=x<<<(32-n)|||x>>>n
structure S8 where
  a:Wd
  b:Wd
  c:Wd
  d:Wd
  e:Wd
  f:Wd
  g:Wd
  h:Wd
def rnd1 (k w:Wd) (s:S8):Wd:=s.h+(rr s.e 6^^^rr s.e 11^^^rr s.e 25)+((s.e&&&s.f)^^^(~~~s.e&&&s.g))+k+w
def rnd2 (s : S8):Wd:=(rr s.a 2^^^rr s.a 13^^^rr s.a 22)+((s.a&&&s.b)^^^(s.a&&&s.c)^^^(s.b&&&s.c))
def rnd (k w:Wd) (s:S8):S8:=⟨rnd1 k w s+rnd2 s,s.a,s.b,s.c,s.d+rnd1 k w s,s.e,s.f,s.g⟩
def sig1 (x : Wd):Wd:=rr x 17^^^rr x 19^^^x>>>10
def sig0 (x : Wd):Wd:=rr x 7^^^rr x 18^^^x>>>3
def wget (ws : List Wd) (i:Nat):Wd:=ws.getD i 0
def wnext (ws : List Wd):Wd:=let i:=ws.length; sig1 (wget ws (i-2))+wget ws (i-7)+sig0 (wget ws (i-15))+wget ws (i-16)
def wmore (ws : List Wd):Nat→List Wd
  | 0=>ws
  | n+1=>wmore ws n++[wnext (wmore ws n)]
def be4 (a b c d:Int):Wd:=zbs 32 (((a*256+b)*256+c)*256+d)
def w16 (b : List Int):List Wd:=(zak 16).map fun i=>be4 (nth b (4*i)) (nth b (4*i+1)) (nth b (4*i+2)) (nth b (4*i+3))
def w64 (b : List Int):List Wd:=wmore (w16 b) 48
def rnds (K ws:List Wd) (s:S8):Nat→S8
  | 0=>s
  | n+1=>rnd (wget K n) (wget ws n) (rnds K ws s n)
def S8.add (s t:S8):S8:=⟨s.a+t.a,s.b+t.b,s.c+t.c,s.d+t.d,s.e+t.e,s.f+t.f,s.g+t.g,s.h+t.h⟩
def Qm3 : List Nat:=[0x428a2f98d728ae22,0x7137449123ef65cd,0xb5c0fbcfec4d3b2f,0xe9b5dba58189dbbc,0x3956c25bf348b538,0x59f111f1b605d019,0x923f82a4af194f9b,0xab1c5ed5da6d8118,0xd807aa98a3030242,0x12835b0145706fbe,0x243185be4ee4b28c,0x550c7dc3d5ffb4e2,0x72be5d74f27b896f,0x80deb1fe3b1696b1,0x9bdc06a725c71235,0xc19bf174cf692694,0xe49b69c19ef14ad2,0xefbe4786384f25e3,0x0fc19dc68b8cd5b5,0x240ca1cc77ac9c65,0x2de92c6f592b0275,0x4a7484aa6ea6e483,0x5cb0a9dcbd41fbd4,0x76f988da831153b5,0x983e5152ee66dfab,0xa831c66d2db43210,0xb00327c898fb213f,0xbf597fc7beef0ee4,0xc6e00bf33da88fc2,0xd5a79147930aa725,0x06ca6351e003826f,0x142929670a0e6e70,0x27b70a8546d22ffc,0x2e1b21385c26c926,0x4d2c6dfc5ac42aed,0x53380d139d95b3df,0x650a73548baf63de,0x766a0abb3c77b2a8,0x81c2c92e47edaee6,0x92722c851482353b,0xa2bfe8a14cf10364,0xa81a664bbc423001,0xc24b8b70d0f89791,0xc76c51a30654be30,0xd192e819d6ef5218,0xd69906245565a910,0xf40e35855771202a,0x106aa07032bbd1b8,0x19a4c116b8d2d0c8,0x1e376c085141ab53,0x2748774cdf8eeb99,0x34b0bcb5e19b48a8,0x391c0cb3c5c95a63,0x4ed8aa4ae3418acb,0x5b9cca4f7763e373,0x682e6ff3d6b2b8a3,0x748f82ee5defb2fc,0x78a5636f43172f60,0x84c87814a1f0ab72,0x8cc702081a6439ec,0x90befffa23631e28,0xa4506cebde82bde9,0xbef9a3f7b2c67915,0xc67178f2e372532b,0xca273eceea26619c,0xd186b8c721c0c207,0xeada7dd6cde0eb1e,0xf57d4f7fee6ed178,0x06f067aa72176fba,0x0a637dc5a2c898a6,0x113f9804bef90dae,0x1b710b35131c471b,0x28db77f523047d84,0x32caab7b40c72493,0x3c9ebe0a15c9bebc,0x431d67c49c100d4c,0x4cc5d4becb3e42b6,0x597f299cfc657e2a,0x5fcb6fab3ad6faec,0x6c44198c4a475817]
def KK : List Wd:=(Qm3.take 64).map fun n=>BitVec.ofNat 32 (n/4294967296)
def S0 : S8:=⟨0x6a09e667,0xbb67ae85,0x3c6ef372,0xa54ff53a,0x510e527f,0x9b05688c,0x1f83d9ab,0x5be0cd19⟩
def blk (s : S8) (b:List Int):S8:=s.add (rnds KK (w64 b) s 64)
def absorb (s : S8) (t:List Int):Nat→S8
  | 0=>s
  | n+1=>blk (absorb s t n) ((t.drop (64*n)).take 64)
def S8.l (s : S8):List Wd:=[s.a,s.b,s.c,s.d,s.e,s.f,s.g,s.h]
def wby (x : Wd):List Int:=[((x.toNat/16777216%256:Nat):Int),((x.toNat/65536%256:Nat):Int),((x.toNat/256%256:Nat):Int),((x.toNat/1%256:Nat):Int)]
def S8.out (s : S8):List Int:=s.l.flatMap wby
def be8 (n : Nat):List Int:=[((n/72057594037927936%256:Nat):Int),((n/281474976710656%256:Nat):Int),((n/1099511627776%256:Nat):Int),((n/4294967296%256:Nat):Int),((n/16777216%256:Nat):Int),((n/65536%256:Nat):Int),((n/256%256:Nat):Int),((n/1%256:Nat):Int)]
def Qbc (n : Nat):Nat:=(64-(n+9)%64)%64
def QeE (n : Nat):List Int:=128::(zaa (Qbc n) 0++be8 (8*n))
def padT (t : List Int):List Int:=t++QeE t.length
def dig (t : List Int):List Int:=(absorb S0 (padT t) ((padT t).length/64)).out
def fill (xs : List Int) (n m:Nat):List Int:=xs.take m++zaa (n-m) 0
theorem Qb4 {xs : List Int} {n m:Nat} (hx:xs.length=n) (hm:m≤n):(fill xs n m).length=n:=by
  simp [fill]; omega
theorem QcE (xs : List Int) (n:Nat):fill xs n 0=zaa n 0:=by simp [fill]
theorem QcF {xs : List Int} {n:Nat} (hx:xs.length=n):fill xs n n=xs:=by simp [fill,←hx]
theorem Qcl {xs : List Int} {n m:Nat} (hx:xs.length=n) (hm:m<n):(fill xs n m).set m (nth xs m)=fill xs n (m+1):=by
  unfold fill
  have e:n-m=(n-(m+1))+1:=by omega
  rw [e,List.replicate_succ]
  have hl:(xs.take m).length=m:=by rw [zbt]; omega
  rw [List.set_append_right _ _ oo,hl,Nat.sub_self,List.set_cons_zero,List.take_add_one,zaG oo,List.append_assoc]
  simp [nth,show m<xs.length by omega]
theorem QeQ {xs : List Int} {n m j:Nat} (hx:xs.length=n) (hm:m≤n) (hj:j<m):nth (fill xs n m) j=nth xs j:=by
  unfold fill nth
  rw [zaF,zbg (by rw [zbt]; omega),zbo hj,←zaF]
theorem Qk8 {xs : List Int} {n m j:Nat} (hx:xs.length=n) (hm:m≤j):nth (fill xs n m) j=0:=by
  unfold fill nth
  rw [zaF]
  rcases zau m n with h | h
  · rw [List.getElem?_append_right (by rw [zbt]; omega),List.getElem?_replicate]
    split <;> rfl
  · rw [za3 (by simp; omega)]; rfl
theorem QgR {xs : List Int} {i:Nat} {v:Int} (h:i<xs.length):nth (xs.set i v) i=v:=by simp [nth,h]
theorem QbJ (ws : List Wd) (i:Nat):nth (ws.map wv) i=wv (wget ws i):=by
  simp only [nth,wget,zaF,zaX]
  cases ws[i]? <;> rfl
theorem wrap32 (x : Int):zbu.wrap x=x%4294967296:=by
  have:zbu.wrap x=x%2^32:=rfl
  rw [this]; rfl
theorem Qcm (x y:Wd):zbu.wrap (wv x+wv y)=wv (x+y):=by
  rw [wrap32]; unfold wv; rw [BitVec.toNat_add]; omega
theorem Qig (x : Wd):zbs 32 (wv x)=x:=by
  apply BitVec.eq_of_toNat_eq
  have:=x.isLt
  simp only [zbv,wv]
  omega
theorem QdN (n : Int):wv (zbs 32 n)=n%4294967296:=by
  simp only [wv,zbv]; omega
theorem Qjx (op : BinOp) (x y:Wd) (z:Wd) (h:z=match op with | .and=>x&&&y | .or=>x|||y | .xor=>x^^^y | _=>x &&& ~~~y):bits op .u32 (wv x) (wv y)=wv z:=by
  subst h
  unfold bits
  show zbu.wrap _=_
  rw [wrap32]
  have h1:zbs zbu.bits (wv x)=x:=Qig x
  have h2:zbs zbu.bits (wv y)=y:=Qig y
  simp only [h1,h2]
  cases op <;> (simp only [wv]; exact Int.emod_eq_of_lt oo (Int.ofNat_lt.2 (BitVec.isLt _)))
theorem Qf3 (x y:Wd):bits .and .u32 (wv x) (wv y)=wv (x&&&y):=Qjx .and x y _ rfl
theorem w_or (x y:Wd):bits .or .u32 (wv x) (wv y)=wv (x|||y):=Qjx .or x y _ rfl
theorem w_xor (x y:Wd):bits .xor .u32 (wv x) (wv y)=wv (x^^^y):=Qjx .xor x y _ rfl
theorem Qf2 (x : Wd) (c:Int) (n:Nat) (hc:c=n) (hn:n≤32):(wv x).fdiv (2^min c.toNat zbu.bits)=wv (x>>>n):=by
  subst hc
  have hm:min ((n:Int)).toNat zbu.bits=n:=by show min ((n:Int)).toNat 32=n; omega
  rw [hm,Int.fdiv_eq_ediv_of_nonneg _ (Int.le_of_lt (Int.pow_pos dd))]
  unfold wv
  rw [BitVec.toNat_ushiftRight,Nat.shiftRight_eq_div_pow,Int.natCast_ediv,zbw]
  rfl
theorem Qhm (x : Wd) (c:Int) (n:Nat) (hc:c=n) (hn:n≤32):zbu.wrap (wv x*2^min c.toNat zbu.bits)=wv (x<<<n):=by
  subst hc
  have hm:min ((n:Int)).toNat zbu.bits=n:=by show min ((n:Int)).toNat 32=n; omega
  rw [hm,wrap32]
  unfold wv
  rw [BitVec.toNat_shiftLeft,Nat.shiftLeft_eq]
  have e:(x.toNat:Int)*2^n=((x.toNat*2^n:Nat):Int):=by rw [Int.natCast_mul,zbw]; rfl
  rw [e]; omega
theorem Qpe (x : Wd):zbu.wrap (4294967295-wv x)=wv (~~~x):=by
  rw [wrap32]; unfold wv; rw [BitVec.toNat_not]; have:=x.isLt; omega
theorem QnU (x : Wd) (n:Nat) (h:0<n) (hn:n<32):x>>>n+x<<<(32-n)=rr x n:=by
  unfold rr
  rw [BitVec.or_comm]
  refine BitVec.add_eq_or_of_and_eq_zero _ _ ?_
  apply BitVec.eq_of_getLsbD_eq
  intro i hi
  simp only [BitVec.getLsbD_and,BitVec.getLsbD_ushiftRight,BitVec.getLsbD_shiftLeft,BitVec.getLsbD_zero]
  rcases zau i (32-n) with h1 | h1
  · simp [h1]
  · rw [BitVec.getLsbD_of_ge _ _ (show 32≤n+i by omega)]; rfl
end Sha
end
section
namespace Auto
open Go Go.RowKit
open Rely Own
theorem i64n (a : Int) (m:Nat) (e:a=(m:Int)) (h:m≤9000000000000000000):zbm.wrap a=(m:Int):=by subst e; exact IntWalk.i64_in _ oo
theorem Qbk {n g:Nat} {W W':World} {ob:Obj} (h:Below n W W') (r:W.heap[g]? = some ob) (hl:g<n):W'.heap[g]? = some ob:=(h.block g hl).trans r
theorem Ext.low {w W W':World} {n:Nat} (h:Ext w W) (l:Below n W W') (hn:w.heap.size≤n):Ext w W' :=
  ⟨l.os.trans h.os,l.tape.trans h.tape,l.output.trans h.output,qT h.size l.size,fun k hk=>(l.block k oo).trans (h.block k hk)⟩
theorem ExtB.putsN {w W W':World} {g c:Nat} (h:ExtB g w W) (p:Puts W c W') (hc:w.heap.size≤c):ExtB g w W' :=
  ⟨p.1.trans h.1,p.2.1.trans h.2.1,p.2.2.1.trans h.2.2.1,by have:=h.2.2.2.1; have:=p.2.2.2.1; omega,fun k hk hn=>(p.2.2.2.2 k oo).trans (h.2.2.2.2 k hk hn)⟩
end Auto
namespace Own
open Go Go.RowKit
theorem ExtB.size {w W:World} {g:Nat} (h:ExtB g w W):w.heap.size≤W.heap.size:=h.2.2.2.1
end Own
namespace Auto
open Go Go.RowKit
open Rely Own
structure Qai (gs : List Nat) (V W : World) : Prop where
  os:W.os=V.os
  tape:W.tape=V.tape
  output:W.output=V.output
  size:V.heap.size≤W.heap.size
  block:∀ k,k<V.heap.size→k∉gs→W.heap[k]? = V.heap[k]?
theorem Qai.refl (gs : List Nat) (V:World):Qai gs V V:=⟨rfl,rfl,rfl,qR _,fun _ _ _=>rfl⟩
theorem QaF {b : Nat}:b∉([]:List Nat):=by simp
theorem Qaw {b g:Nat} {gs:List Nat} (h:b≠g) (k:b∉gs):b∉g::gs:=by simp [h,k]
theorem Qfi {p : Nat→Prop}:∀ c∈([]:List Nat),p c:=by simp
theorem QdE {p : Nat→Prop} {g:Nat} {gs:List Nat} (h:p g) (k:∀ c∈gs,p c):∀ c∈g::gs,p c:=by
  intro c hc
  rcases zaL.1 hc with rfl | hc
  · exact h
  · exact k c hc
theorem Qai.row {gs : List Nat} {V W:World} {b:Nat} {ob:Obj} (h:Qai gs V W) (r:V.heap[b]? = some ob) (hn:b∉gs):W.heap[b]? = some ob:=(h.block b (Qaq r) hn).trans r
theorem Qai.step {gs : List Nat} {V W W':World} (h:Qai gs V W) (e:Ext W W'):Qai gs V W' :=
  ⟨e.os.trans h.os,e.tape.trans h.tape,e.output.trans h.output,qT h.size e.size,fun k hk hn=>(e.block k (qL hk h.size)).trans (h.block k hk hn)⟩
theorem Qai.puts {gs : List Nat} {V W W':World} {c:Nat} (h:Qai gs V W) (p:Puts W c W') (hc:c∈gs∨V.heap.size≤c):Qai gs V W' :=
  ⟨p.1.trans h.os,p.2.1.trans h.tape,p.2.2.1.trans h.output,by have:=h.size; have:=p.2.2.2.1; omega,fun k hk hn=>(p.2.2.2.2 k (fun e=>by subst e; rcases hc with hc | hc; exact hn hc; omega)).trans (h.block k hk hn)⟩
theorem Qai.but {gs : List Nat} {V W W':World} {c:Nat} (h:Qai gs V W) (p:ExtB c W W') (hc:c∈gs∨V.heap.size≤c):Qai gs V W' :=
  ⟨p.1.trans h.os,p.2.1.trans h.tape,p.2.2.1.trans h.output,qT h.size p.2.2.2.1,fun k hk hn=>(p.2.2.2.2 k (qL hk h.size) (fun e=>by subst e; rcases hc with hc | hc; exact hn hc; omega)).trans (h.block k hk hn)⟩
theorem Qai.low {gs : List Nat} {V W W':World} {n:Nat} (h:Qai gs V W) (l:Below n W W') (hn:V.heap.size≤n):Qai gs V W' :=
  ⟨l.os.trans h.os,l.tape.trans h.tape,l.output.trans h.output,qT h.size l.size,fun k hk hm=>(l.block k oo).trans (h.block k hk hm)⟩
theorem Qai.keeps {gs hs:List Nat} {V W W':World} (h:Qai gs V W) (q:Qai hs W W') (hc:∀ c∈hs,c∈gs∨V.heap.size≤c):Qai gs V W' :=
  ⟨q.os.trans h.os,q.tape.trans h.tape,q.output.trans h.output,qT h.size q.size,fun k hk hn=>(q.block k (qL hk h.size) (fun hm=>by rcases hc k hm with e | e; exact hn e; omega)).trans (h.block k hk hn)⟩
theorem Qai.ext {hs : List Nat} {V W W':World} (q:Qai hs W W') (h:Ext V W) (hc:∀ c∈hs,V.heap.size≤c):Ext V W' :=
  ⟨q.os.trans h.os,q.tape.trans h.tape,q.output.trans h.output,qT h.size q.size,fun k hk=>(q.block k (qL hk h.size) (fun hm=>by have:=hc k hm; omega)).trans (h.block k hk)⟩
theorem OwnN.low {k : IntKind} {T:TypeId} {base n:Nat} {xs:List Int} {v:Value} {V W W':World} (h:OwnN k T base xs v W) (hV:OwnN k T base xs v V) (l:Below V.heap.size W W'):OwnN k T base xs v W':=h.keep fun g hg=>l.block g (hV.lt hg)
theorem RdK.puts {k : IntKind} {B c:Nat} {ys:List Int} {v:Value} {W W':World} (h:RdK k B ys v W) (p:Puts W c W') (hc:B≤c):RdK k B ys v W':=h.keep (qE p.2.2.2.1.symm) fun g hg _=>p.2.2.2.2 g oo
theorem OwnN.puts {k : IntKind} {T:TypeId} {base c:Nat} {xs:List Int} {v:Value} {W W':World} (h:OwnN k T base xs v W) (p:Puts W c W') (hc:v.ownBlock≠some c):OwnN k T base xs v W':=h.keep fun g hg=>p.2.2.2.2 g (fun e=>hc (by rw [hg,e]))
theorem RdK.keepN {k : IntKind} {B:Nat} {ys:List Int} {v:Value} {W W':World} (h:RdK k B ys v W) (hs:W.heap.size≤W'.heap.size) (hk:∀ g,v.ownBlock=some g→g<W.heap.size→W'.heap[g]? = W.heap[g]?):RdK k B ys v W':=by
  obtain ⟨a,cap,rfl,h2,h3,h4,h5⟩:=h
  refine ⟨a,cap,rfl,h2,h3,h4,h5.imp id ?_⟩
  rintro ⟨g,o,rfl,q2,q3,q4⟩
  refine ⟨g,o,rfl,q2,qL q3 hs,fun i hi=>?_⟩
  rw [←q4 i hi]
  exact zbn (hk g rfl q3)
theorem RdK.extN {k : IntKind} {B g:Nat} {ys:List Int} {v:Value} {W W':World} (h:RdK k B ys v W) (e:ExtB g W W') (hn:v.ownBlock≠some g):RdK k B ys v W':=h.keepN e.2.2.2.1 fun i hi hl=>e.2.2.2.2 i hl (fun q=>hn (by rw [hi,q]))
theorem RdK.putsN {k : IntKind} {B c:Nat} {ys:List Int} {v:Value} {W W':World} (h:RdK k B ys v W) (p:Puts W c W') (hn:v.ownBlock≠some c):RdK k B ys v W':=h.keepN (qE p.2.2.2.1.symm) fun g hg _=>p.2.2.2.2 g (fun q=>hn (by rw [hg,q]))
theorem RdK.here {k : IntKind} {B:Nat} {ys:List Int} {v:Value} {W:World} (h:RdK k B ys v W):RdK k W.heap.size ys v W:=by
  obtain ⟨a,cap,rfl,h2,h3,h4,h5⟩:=h
  exact ⟨a,cap,rfl,h2,h3,h4,h5.imp id fun ⟨g,o,q1,q2,q3,q4⟩=>⟨g,o,q1,q3,q3,q4⟩⟩
theorem RdK.nb {k : IntKind} {B g:Nat} {ys:List Int} {v:Value} {W:World} (h:RdK k B ys v W) (hB:B≤g):ys=[]∨v.ownBlock≠some g:=by
  obtain ⟨a,cap,rfl,h2,h3,h4,h5⟩:=h
  refine h5.imp id ?_
  rintro ⟨g',o,rfl,q2,q3,q4⟩ e
  have:g'=g:=Option.some.inj e
  omega
theorem OwnN.nb {k : IntKind} {T:TypeId} {base g:Nat} {xs:List Int} {v:Value} {W:World} (h:OwnN k T base xs v W) (hg:g<base):v.ownBlock≠some g:=fun e=>by have:=h.ge e; omega
theorem Qat (k : IntKind) (xs:List Int):(ints k xs).all (·.oneCell')=true:=by
  rw [←Array.all_toList,zap]
  intro v hv
  simp only [ints,zaZ] at hv
  obtain ⟨x,_,rfl⟩:=hv
  rfl
theorem Qf5 {P : Program} (W:World) {t e:TypeId} {n:Nat} {k ki:IntKind} (ht:P.underlying t=some (.array n e)) (he:P.underlying e=some (.int k)) (hq:(P.info? e).map (·.size)=some 1)
    (xs:List Int) (hl:xs.length=n) (i:Nat) (hi:i<n):(Instr.index t (.agg (ints k xs)) (.int ki (i:Int))).run P W=.ok (.int k (nth xs i)) W:=by
  have hp:P.plainKey e=true:=by simp [Program.plainKey,he]
  have a1:=run_part_plain W hp (QaD k xs i oo)
  unfold Instr.index
  cases hI:P.info? e with
  | none=>simp [hI] at hq
  | some inf =>
    have hs:inf.size=1:=by simpa [hI] using hq
    have h1:((0:Int)≤(i:Int)∧(i:Int)<(n:Int)):=by omega
    simp [asIntOf,run_underlying ht,zaJ,sizeOf,typeInfo,hI,hs,hi,a1]
theorem QaE {P : Program} {ρ:Operand→Value} {o:Oper} {w:World} (t:TypeId) (x y:Operand) (ki k:IntKind) (xs:List Int) (i n:Nat) (e:TypeId) (v:Int) (ho:o.op=.index t x y) (hx:ρ x=.agg (ints k xs)) (hy:ρ y=.int ki (i:Int))
    (ht:P.underlying t=some (.array n e)) (he:P.underlying e=some (.int k)) (hq:(P.info? e).map (·.size)=some 1) (hl:xs.length=n) (hi:i<n) (hv:nth xs i=v):(execOp ρ o).run P w=.ok (.value (.int k v)) w:=by
  have h:=Qf5 (P:=P) w (ki:=ki) ht he hq xs hl i hi
  rw [hv] at h
  unfold execOp
  simp only [ho,hx,hy,zaJ,h,zaK,zaW]
theorem Qlg {k : IntKind} (pre post:List (Array Value)) (xs:List Int) (n0 i:Nat) (v:Int) (hp:(cat pre).size=n0) (hi:i<xs.length) :
    (cat (pre++([ints k xs]++post))).setIfInBounds (n0+i) (.int k v)=cat (pre++([ints k (xs.set i v)]++post)):=by
  subst hp
  rw [QaG,QaG,QaG,QaG]
  have e1:∀ z,cat [ints k z]=ints k z:=fun z=>rfl
  rw [e1,e1,←Qir]
  have hz:i<(ints k xs).size:=by rw [Qbq]; exact hi
  rw [Array.setIfInBounds_append_right oo,zbd,Array.setIfInBounds_append_left hz]
theorem Qek {P : Program} {ρ:Operand→Value} {o:Oper} {w:World} {k:IntKind} (ty:TypeId) (x y:Operand) (g off:Nat) (t:TypeId) (pre post:List (Array Value)) (xs:List Int) (n0 i:Nat) (v:Int) (hg:w.heap[g]? = some (.cells (cat (pre++([ints k xs]++post))) t))
    (ho:o.op=.store ty x y) (hx:ρ x=pp g off) (hy:ρ y=.int k v) (hi:(P.info? ty).map (·.size)=some 1) (hp:(cat pre).size=n0) (hoff:off=n0+i) (hix:i<xs.length) :
    (execOp ρ o).run P w=.ok .skip (w.setRow g (cat (pre++([ints k (xs.set i v)]++post)))):=by
  subst hoff
  have hs:zaS (n0+i) (cat (pre++([ints k xs]++post))).size=true:=by
    have:n0+i<(cat (pre++([ints k xs]++post))).size:=by
      rw [QaG,QaG,qS,qS,hp]
      have e1:(cat [ints k xs]).size=xs.length:=Qbq k xs
      omega
    simpa using this
  rw [←Qlg pre post xs n0 i v hp hix]
  exact Qbj ty x y g (n0+i) t _ (.int k v) hg ho hx hy hi hs rfl rfl
theorem QdZ {k : IntKind} (pre post:List (Array Value)) (xs:List Int) (n0 i off:Nat) (hp:(cat pre).size=n0) (hoff:off=n0+i) (hi:i<xs.length):(cat (pre++([ints k xs]++post)))[off]? = some (.int k (nth xs i)):=by
  subst hoff
  exact Qap pre [ints k xs] post n0 hp i _ (QaD k xs i hi)
theorem Qg1 {P : Program} {Rd:World→Prop} {l:List Oper} {N:Nat} {L:Env} {K:World→Prop} {w:World} {j:Nat} {r:List Nat} (o:Oper) (g:Nat) (old cs:Array Value) (t:TypeId) (hg:w.heap[g]? = some (.cells old t)) (ho:l[j]? = some o)
    (h:(execOp (Rely.look (envN N L)) o).run P w=.ok .skip (w.setRow g cs)) (hr:∀ W:World,Puts w g W→W.heap[g]? = some (.cells cs t)→Rd W) (k:∀ W:World,Puts w g W→W.heap[g]? = some (.cells cs t)→Qdl P Rd l N L K r W):Qdl P Rd l N L K (j::r) w :=
  ⟨o,_,ho,h,hr _ (Qbe _ _ _) (setRow_heap _ _ _ _ _ _ hg),k _ (Qbe _ _ _) (setRow_heap _ _ _ _ _ _ hg)⟩
theorem Qaz (v : Value) (h:v.oneCell'=true):(#[v].all (·.oneCell'))=true:=by simp [h]
theorem QkE {P : Program} (t:TypeId) {e:TypeId} {k:IntKind} (xs ys:List Int) {n:Nat} {b:Bool} (h:decide (xs=ys)=b) (hx:xs.length=n) (hy:ys.length=n) (ht:P.underlying t=some (.array n e)) (he:P.underlying e=some (.int k)) (hc:P.cellsOf e=1) (w:World) :
    (binOp .eql t (.agg (ints k xs)) (.agg (ints k ys))).run P w=.ok (.bool b) w:=by
  subst h; exact QlO w ht he hc xs ys hx hy
theorem QgS {P : Program} (t:TypeId) {e:TypeId} {k:IntKind} (xs ys:List Int) {n:Nat} {b:Bool} (h:decide (xs=ys)=b) (hx:xs.length=n) (hy:ys.length=n) (ht:P.underlying t=some (.array n e)) (he:P.underlying e=some (.int k)) (hc:P.cellsOf e=1) (w:World) :
    (binOp .neq t (.agg (ints k xs)) (.agg (ints k ys))).run P w=.ok (.bool (!b)) w:=by
  subst h; exact Ql8 w ht he hc xs ys hx hy
theorem QhB {W : World} {g:Nat} {cs:Array Value} {T:TypeId} (m:Nat) (r:W.heap[g]? = some (.cells cs T)):Puts W g (W.freeze ⟨g,m,none⟩ 1)∧(W.freeze ⟨g,m,none⟩ 1).heap[g]? = some (.cells cs T (m,m+1)):=by
  have hl:=Qaq r
  unfold World.freeze
  rw [if_neg dd]
  refine ⟨⟨rfl,rfl,rfl,Array.size_modify ..,fun k hk=>?_⟩,?_⟩
  · show (W.heap.modify g _)[k]? = _
    rw [zbx,if_neg (fun e=>hk e.symm)]
  · show (W.heap.modify g _)[g]? = _
    rw [zbx,if_pos rfl,r]
    rfl
theorem QiT {k : IntKind} {T:TypeId} {g n:Nat} {xs:List Int} {fr:Nat×Nat} {W:World} (hn:xs.length=n) (r:W.heap[g]? = some (.cells (ints k xs) T fr)) (hm:n≤maxLen):RdK k W.heap.size xs (.slice (some ⟨g,0,none⟩) n n) W:=by
  subst hn
  refine ⟨_,_,rfl,qR _,hm,(fun h=>by cases h),.inr ⟨g,0,rfl,Qaq r,Qaq r,fun i hi=>?_⟩⟩
  rw [za5]
  exact (cell_of_row W g i (ints k xs) T fr r).trans (QaD k xs i hi)
section
variable {ds : List Deferred} {P : Program} {ops : Array Oper} {Q : Exit → Act → World → Prop} {rest : List Oper} {o : Oper} {N : Nat} {L : Env} {W : World}
theorem Qj8 {g n:Nat} {xs:List Int} {T:TypeId} (t e:TypeId) (x:Operand) (d:Nat) (ho:o.op=.convert t t x) (hd:o.dst=some d) (hg:Qbp ops o N L=some true) (hx:Rely.look (envN N L) x=.slice (some ⟨g,0,none⟩) n n)
    (ht:P.underlying t=some (.slice e)) (he:P.underlying e=some (.int .u8)) (hn:xs.length=n) (hm:n≤maxLen) (r:W.heap[g]? = some (.cells (ints .u8 xs) T))
    (k:∀ W':World,Puts W g W'→W'.heap[g]? = some (.cells (ints .u8 xs) T (n,n+1))→RdK .u8 W'.heap.size xs (.slice (some ⟨g,0,none⟩) n n) W'→WL P ops Q rest (Qav ds N ((d,.slice (some ⟨g,0,none⟩) n n)::L)) W'):WL P ops Q (o::rest) (Qav ds N L) W:=by
  have hsz:(ints .u8 xs).size=n:=(Qbq _ _).trans hn
  obtain ⟨h1,h2⟩:=QhB n r
  refine Qbs _ _ d hd hg ?_ (k _ h1 h2 (QiT hn h2 hm))
  have hsh:W.shape? g=some (T,n):=by unfold World.shape?; rw [r]; simp [hsz]
  unfold execOp
  simp [ho,hx,convert,run_underlying ht,run_underlying he,markStringish,hsh]
end
theorem Qpf (x : Sha.Wd):bits .xor .u32 4294967295 (Sha.wv x)=Sha.wv (~~~x):=by
  have h:=Sha.w_xor (BitVec.allOnes 32) x
  rw [BitVec.allOnes_xor] at h
  exact h
end Auto
end
section
namespace Auto
open Go Go.RowKit
open Rely Own
variable {ds : List Deferred}
theorem Qb0 (nf : Nat) (P:Program):Free Fence.wide nf P:=⟨fun _=>trivial,(fun h=>by cases h),fun h=>callsIn_wide.2 h⟩
section
variable {P : Program} {ops : Array Oper} {Q : Exit → Act → World → Prop} {rest : List Oper} {o : Oper} {N : Nat} {L : Env} {w : World}
theorem Qis {m l:Nat} {args:Array Value} {A B:World→Prop} (d:Nat) (hd:o.dst=some d) (hnd:Qcu o=true) (hg:Qbp ops o N L=some true)
    (h:(execOp (Rely.look (envN N L)) o).run P w=(Instr.yield l args).run P w)
    (hy:YieldAt Fence.wide (m-1) P l args w fun e W'=>(e=.returned (.bool true)∧A W')∨(e=.returned (.bool false)∧B W'))
    (kt:∀ W',A W'→WLI Fence.wide m P ops Q rest (Qav ds N ((d,.bool true)::L)) W') (kf:∀ W',B W'→WLI Fence.wide m P ops Q rest (Qav ds N ((d,.bool false)::L)) W'):WLI Fence.wide m P ops Q (o::rest) (Qav ds N L) w :=
  Qky (Qb0 m P) hnd hg fun K hK=>by
    rw [h]
    obtain ⟨fn,tmps,assign,body,h1,h2⟩:=hy
    rw [h1,Oper.uponIn_round]
    refine ⟨(Qb0 m P).dp,h2.mono ?_⟩
    rintro e W' (⟨rfl,a⟩ | ⟨rfl,b⟩)
    · show K _ _
      rw [hd,QaS]
      exact hK _ _ (kt _ a)
    · show K _ _
      rw [hd,QaS]
      exact hK _ _ (kf _ b)
end
theorem Qk2 {W W':World} (e:Ext W W'):W.grownBy W' none:=⟨e.os,e.tape,e.output,e.size,fun k hk _=>e.block k hk⟩
theorem QfQ {β : Type} {B:Nat} {J:β→World→Prop} (hJ:AbidesFrom B J) {s:β} {W W':World} (h:J s W) (e:Ext W W'):J s W':=hJ s W W' none h (Qk2 e) (fun r q=>by cases q)
def QbP (gs : List Nat) (A B:World):Prop:=A.heap.size≤B.heap.size∧∀ k cs t fr,A.heap[k]? = some (.cells cs t fr)→k∉gs→B.heap[k]? = some (.cells cs t fr)
theorem QbP.trans {gs : List Nat} {A B C:World} (h:QbP gs A B) (k:QbP gs B C):QbP gs A C:=⟨qT h.1 k.1,fun i cs t fr q n=>k.2 i cs t fr (h.2 i cs t fr q n) n⟩
theorem QbP.ext {gs : List Nat} {A B:World} (e:Ext A B):QbP gs A B:=⟨e.size,fun k cs t fr q _=>(e.block k (Qaq q)).trans q⟩
theorem QbP.keeps {gs : List Nat} {A B:World} (e:Qai gs A B):QbP gs A B:=⟨e.size,fun k cs t fr q n=>(e.block k (Qaq q) n).trans q⟩
theorem QbP.book {gs : List Nat} {w:World} (W:World) (l:Nat) (o o':Obj) (hl:w.heap.size≤l) (h:W.heap[l]? = some o) (hc:o.isCells=false) (_:o.isWalk=false):QbP gs W (W.putObj l o') :=
  ⟨by simp,fun k cs t fr q _=>(zbl (fun e=>by subst e; rw [h] at q; cases q; cases hc)).trans q⟩
theorem QbP.row {gs : List Nat} {A B:World} {k:Nat} {cs:Array Value} {t:TypeId} (h:QbP gs A B) (r:A.heap[k]? = some (.cells cs t)) (n:k∉gs):B.heap[k]? = some (.cells cs t):=h.2 k cs t _ r n
theorem QbP.cell {gs : List Nat} {A B:World} {b off:Nat} {v:Value} (h:QbP gs A B) (hc:A.cell? ⟨b,off,none⟩=some v) (n:b∉gs):B.cell? ⟨b,off,none⟩=some v:=by
  unfold zaO at hc ⊢
  cases hb:A.heap[b]? with
  | none=>simp [hb] at hc
  | some ob =>
    cases ob with
    | cells cs t fr=>rw [h.2 b cs t fr hb n]; rw [hb] at hc; exact hc
    | _=>simp [hb] at hc
def Grew (w W:World):Prop:=w.heap.size≤W.heap.size
theorem Grew.refl (w : World):Grew w w:=qR _
theorem Grew.size {w W:World} (h:Grew w W):w.heap.size≤W.heap.size:=h
theorem Grew.ext {w W W':World} (h:Grew w W) (e:Ext W W'):Grew w W':=qT h e.size
theorem Grew.puts {w W W':World} {g:Nat} (h:Grew w W) (p:Puts W g W'):Grew w W':=qT h (qE p.2.2.2.1.symm)
theorem Grew.keepC {w W W':World} {gs:List Nat} (h:Grew w W) (p:QbP gs W W'):Grew w W':=qT h p.1
end Auto
end
section
namespace Auto
open Go Go.RowKit
open Rely Own
section
variable {P : Program} {w : World} {k kn : IntKind} {T : TypeId} {t tn ty : TypeId}
end
end Auto
end
section
namespace Cha
open Go Go.RowKit
open Rely Auto Own Sha
open Sha
section
variable {P : Program} {fn : Func} {R : Ending → World → Prop} {N : Nat} {L : Env} {w : World}
theorem QgA {r s t q:ResultVar} {u v x y:Value} (hr:fn.results=#[r,s,t,q]) (h:Qdm P w N L r u) (k:Qdm P w N L s v) (l:Qdm P w N L t x) (m:Qdm P w N L q y):(results fn (Qav [] N L).tmps).run P w=.ok (.tuple #[u,v,x,y]) w:=by
  rw [Qd2,hr]
  simp [Qcs h,Qcs k,Qcs l,Qcs m,zaJ]
theorem ret4 {r s t q:ResultVar} (u v x y:Value) (hr:fn.results=#[r,s,t,q]) (h:Qdm P w N L r u) (k:Qdm P w N L s v) (l:Qdm P w N L t x) (m:Qdm P w N L q y) (z:R (.returned (.tuple #[u,v,x,y])) w):bodyPost P fn R .ret (Qav [] N L) w:=bodyPost_ret (QgA hr h k l m) rfl z
end
def rl (x : Wd) (n:Nat):Wd:=x<<<n|||x>>>(32-n)
theorem QnX (n : Nat) (hn:n<32):zby.wrap (n:Int)=(n:Int):=by
  have:∀ z:Int,zby.wrap z=z%2^64:=fun _=>rfl
  rw [this]; omega
theorem QoY : ∀ n:Nat,n<32→bits .and .u64 (n:Int) 31=(n:Int):=by
  have h:∀ n:Fin 32,bits .and .u64 (n.1:Int) 31=(n.1:Int):=by decide
  intro n hn
  exact h ⟨n,hn⟩
theorem Qla (n : Nat) (hn:n<32):zby.wrap (32-(n:Int))=((32-n:Nat):Int):=by
  have:∀ z:Int,zby.wrap z=z%2^64:=fun _=>rfl
  rw [this]; omega
def qA (a b:Wd):Wd:=a+b
def qD (a b d:Wd):Wd:=rl (d^^^(a+b)) 16
def qC (a b c d:Wd):Wd:=c+qD a b d
def qB (a b c d:Wd):Wd:=rl (b^^^qC a b c d) 12
def qA2 (a b c d:Wd):Wd:=qA a b+qB a b c d
def qD2 (a b c d:Wd):Wd:=rl (qD a b d^^^qA2 a b c d) 8
def qC2 (a b c d:Wd):Wd:=qC a b c d+qD2 a b c d
def qB2 (a b c d:Wd):Wd:=rl (qB a b c d^^^qC2 a b c d) 7
theorem rotL (x : Wd) (n:Nat) (m:Int) (hm:m=(n:Int)) (hn:n<32) (w:World):Calls Tryz.prog 93 #[.int .u32 (wv x),.int .i64 m] w (Ret w (.int .u32 (wv (rl x n)))):=by
  subst hm
  refine enter 17 [(0,.int .u32 (wv x)),(1,.int .i64 (n:Int))] Tryz.func93 rfl rfl kj rfl <| sgB kj <| sgC fun K2 hK2=>sg 1 kj <| sv (.int .u64 ((n:Int))) 7 (Qac (u:=.int .u64 (zby.wrap (n:Int))) kj (congrArg (zaH .u64) (QnX n hn))) <| sv (.int .u64 ((n:Int))) 8 (Qac (u:=.int .u64 (bits .and .u64 ((n:Int)) (31))) kj (congrArg (zaH .u64) (QoY n hn))) <| sg 1 kj <| sgN hK2 <| sgC fun K3 hK3=>sg 2 kj ?_
  refine sv (.int .u32 (wv (x<<<n))) 11 (QaO .shl _ _ _ _ .u32 .u64 _ _ _ rfl kj kj (Qef _ _ _ _ _ _ oo (Qhm x _ n rfl oo))) <| sg 2 kj <| sv (.int .u64 ((32-n:Nat):Int)) 14 (Qac (u:=.int .u64 (zby.wrap (32-(n:Int)))) kj (congrArg (zaH .u64) (Qla n hn))) <| sv (.int .u32 (wv (x>>>(32-n)))) 15 (QaO .shr _ _ _ _ .u32 .u64 _ _ _ rfl kj kj (Qcd _ _ _ _ _ _ oo (Qf2 x _ (32-n) rfl oo))) <| sv (.int .u32 (wv (((x<<<n))|||((x>>>(32-n)))))) 16 (Qac kj (congrArg (zaH .u32) (w_or _ _))) <| sg 1 kj <| sgN hK3 <| wp_ret ?_
  with_reducible repeat first | refine goR1 ?_ | refine goR2 ?_
  exact (show bodyPost _ _ _ .ret _ _ from ret1 (.int .u32 (wv (((x<<<n))|||((x>>>(32-n)))))) rfl (Qax kj) ⟨rfl,(zb1 w)⟩)
theorem Qls (a b c d:Wd) (w:World):Calls Tryz.prog 87 #[.int .u32 (wv a),.int .u32 (wv b),.int .u32 (wv c),.int .u32 (wv d)] w (Ret w (.tuple #[.int .u32 (wv (qA2 a b c d)),.int .u32 (wv (qB2 a b c d)),.int .u32 (wv (qC2 a b c d)),.int .u32 (wv (qD2 a b c d))])):=by
  refine enter 44 [(0,.int .u32 (wv a)),(1,.int .u32 (wv b)),(2,.int .u32 (wv c)),(3,.int .u32 (wv d))] Tryz.func87 rfl rfl kj rfl <| sgB kj <| sgC fun K2 hK2=>sg 2 kj <| sv (.int .u32 (wv ((a)+(b)))) 14 (Qac kj (congrArg (zaH .u32) (Qcm _ _))) <| sg 1 kj <| sgN hK2 <| sgC fun K3 hK3=>sg 2 kj <| sv (.int .u32 (wv ((d)^^^(((a)+(b)))))) 17 (Qac kj (congrArg (zaH .u32) (w_xor _ _))) ?_
  refine Qao (.int .u32 (wv (rl ((d)^^^(((a)+(b)))) 16))) 93 #[.int .u32 (wv ((d)^^^(((a)+(b))))),.int .i64 16] 18 rfl kj kj ((rotL ((d)^^^(((a)+(b)))) 16 16 rfl dd) _) fun W1 e1=>sg 1 kj <| sgN hK3 <| sgC fun K4 hK4=>sg 2 kj <| sv (.int .u32 (wv ((c)+((rl ((d)^^^(((a)+(b)))) 16))))) 21 (Qac kj (congrArg (zaH .u32) (Qcm _ _))) <| sg 1 kj <| sgN hK4 <| sgC fun K5 hK5=>sg 2 kj ?_
  refine sv (.int .u32 (wv ((b)^^^(((c)+((rl ((d)^^^(((a)+(b)))) 16))))))) 24 (Qac kj (congrArg (zaH .u32) (w_xor _ _))) <| Qao (.int .u32 (wv (rl ((b)^^^(((c)+((rl ((d)^^^(((a)+(b)))) 16))))) 12))) 93 #[.int .u32 (wv ((b)^^^(((c)+((rl ((d)^^^(((a)+(b)))) 16)))))),.int .i64 12] 25 rfl kj kj ((rotL ((b)^^^(((c)+((rl ((d)^^^(((a)+(b)))) 16))))) 12 12 rfl dd) _) fun W2 e2=>sg 1 kj <| sgN hK5 <| sgC fun K6 hK6=>sg 2 kj <| sv (.int .u32 (wv ((((a)+(b)))+((rl ((b)^^^(((c)+((rl ((d)^^^(((a)+(b)))) 16))))) 12))))) 28 (Qac kj (congrArg (zaH .u32) (Qcm _ _))) <| sg 1 kj <| sgN hK6 <| sgC fun K7 hK7=>?_
  refine sg 2 kj <| sv (.int .u32 (wv (((rl ((d)^^^(((a)+(b)))) 16))^^^(((((a)+(b)))+((rl ((b)^^^(((c)+((rl ((d)^^^(((a)+(b)))) 16))))) 12))))))) 31 (Qac kj (congrArg (zaH .u32) (w_xor _ _))) <| Qao (.int .u32 (wv (rl (((rl ((d)^^^(((a)+(b)))) 16))^^^(((((a)+(b)))+((rl ((b)^^^(((c)+((rl ((d)^^^(((a)+(b)))) 16))))) 12))))) 8))) 93 #[.int .u32 (wv (((rl ((d)^^^(((a)+(b)))) 16))^^^(((((a)+(b)))+((rl ((b)^^^(((c)+((rl ((d)^^^(((a)+(b)))) 16))))) 12)))))),.int .i64 8] 32 rfl kj kj ((rotL (((rl ((d)^^^(((a)+(b)))) 16))^^^(((((a)+(b)))+((rl ((b)^^^(((c)+((rl ((d)^^^(((a)+(b)))) 16))))) 12))))) 8 8 rfl dd) _) fun W3 e3=>sg 1 kj <| sgN hK7 <| sgC fun K8 hK8=>sg 2 kj <| sv (.int .u32 (wv ((((c)+((rl ((d)^^^(((a)+(b)))) 16))))+((rl (((rl ((d)^^^(((a)+(b)))) 16))^^^(((((a)+(b)))+((rl ((b)^^^(((c)+((rl ((d)^^^(((a)+(b)))) 16))))) 12))))) 8))))) 35 (Qac kj (congrArg (zaH .u32) (Qcm _ _))) <| sg 1 kj <| sgN hK8 ?_
  refine sgC fun K9 hK9=>sg 2 kj <| sv (.int .u32 (wv (((rl ((b)^^^(((c)+((rl ((d)^^^(((a)+(b)))) 16))))) 12))^^^(((((c)+((rl ((d)^^^(((a)+(b)))) 16))))+((rl (((rl ((d)^^^(((a)+(b)))) 16))^^^(((((a)+(b)))+((rl ((b)^^^(((c)+((rl ((d)^^^(((a)+(b)))) 16))))) 12))))) 8))))))) 38 (Qac kj (congrArg (zaH .u32) (w_xor _ _))) <| Qao (.int .u32 (wv (rl (((rl ((b)^^^(((c)+((rl ((d)^^^(((a)+(b)))) 16))))) 12))^^^(((((c)+((rl ((d)^^^(((a)+(b)))) 16))))+((rl (((rl ((d)^^^(((a)+(b)))) 16))^^^(((((a)+(b)))+((rl ((b)^^^(((c)+((rl ((d)^^^(((a)+(b)))) 16))))) 12))))) 8))))) 7))) 93 #[.int .u32 (wv (((rl ((b)^^^(((c)+((rl ((d)^^^(((a)+(b)))) 16))))) 12))^^^(((((c)+((rl ((d)^^^(((a)+(b)))) 16))))+((rl (((rl ((d)^^^(((a)+(b)))) 16))^^^(((((a)+(b)))+((rl ((b)^^^(((c)+((rl ((d)^^^(((a)+(b)))) 16))))) 12))))) 8)))))),.int .i64 7] 39 rfl kj kj ((rotL (((rl ((b)^^^(((c)+((rl ((d)^^^(((a)+(b)))) 16))))) 12))^^^(((((c)+((rl ((d)^^^(((a)+(b)))) 16))))+((rl (((rl ((d)^^^(((a)+(b)))) 16))^^^(((((a)+(b)))+((rl ((b)^^^(((c)+((rl ((d)^^^(((a)+(b)))) 16))))) 12))))) 8))))) 7 7 rfl dd) _) fun W4 e4=>sg 1 kj <| sgN hK9 <| sgB kj <| wp_ret ?_
  with_reducible repeat first | refine goR1 ?_ | refine goR2 ?_
  exact (show bodyPost _ _ _ .ret _ _ from ret4 (.int .u32 (wv ((((a)+(b)))+((rl ((b)^^^(((c)+((rl ((d)^^^(((a)+(b)))) 16))))) 12))))) (.int .u32 (wv (rl (((rl ((b)^^^(((c)+((rl ((d)^^^(((a)+(b)))) 16))))) 12))^^^(((((c)+((rl ((d)^^^(((a)+(b)))) 16))))+((rl (((rl ((d)^^^(((a)+(b)))) 16))^^^(((((a)+(b)))+((rl ((b)^^^(((c)+((rl ((d)^^^(((a)+(b)))) 16))))) 12))))) 8))))) 7))) (.int .u32 (wv ((((c)+((rl ((d)^^^(((a)+(b)))) 16))))+((rl (((rl ((d)^^^(((a)+(b)))) 16))^^^(((((a)+(b)))+((rl ((b)^^^(((c)+((rl ((d)^^^(((a)+(b)))) 16))))) 12))))) 8))))) (.int .u32 (wv (rl (((rl ((d)^^^(((a)+(b)))) 16))^^^(((((a)+(b)))+((rl ((b)^^^(((c)+((rl ((d)^^^(((a)+(b)))) 16))))) 12))))) 8))) rfl (Qax kj) (Qax kj) (Qax kj) (Qax kj) ⟨rfl,(Ext.tr (Ext.tr (Ext.tr (Ext.tr (zb1 w) e1) e2) e3) e4)⟩)
theorem check_D (nonce : List Int) (v:Value) (B:Nat) (number:Int) (w:World) (hn:RdK .u8 B nonce v w) (h:nonce.length=12) (h1:0≤number) (h2:number≤4294967295):Calls Tryz.prog 51 #[v,.int .i64 number] w (Ret w (.nilIface)):=by
  obtain ⟨a_n,c_n,rfl,-⟩:=id hn
  refine enter 16 [(0,.slice a_n nonce.length c_n),(1,.int .i64 number)] Tryz.func51 rfl rfl kj rfl <| sgB kj <| wp_seq_k fun K2 hK2=>sgC fun K3 hK3=>sg 2 kj <| sv (.bool false) 7 (Qac (u:=.bool (((nonce.length:Int) != 12))) kj (congrArg zbz (by simp; omega))) ?_
  refine sgN hK3 <| cond_false kj <| wp_skip <| hK2 _ _ <| wp_seq_k fun K4 hK4=>sgC fun K5 hK5=>sg 1 kj <| sv (.bool false) 10 (Qac (u:=.bool (decide (number<0))) kj (congrArg zbz (decide_eq_false oo))) <| sg 2 kj <| sv (.bool false) 13 (Qac (u:=.bool (decide (number>4294967295))) kj (congrArg zbz (decide_eq_false oo))) ?_
  refine sg 1 kj <| sgN hK5 <| cond_false kj <| wp_skip <| hK4 _ _ <| sgB kj <| wp_ret ?_
  with_reducible repeat first | refine goR1 ?_ | refine goR2 ?_
  exact (show bodyPost _ _ _ .ret _ _ from ret1 (.nilIface) rfl (Qax kj) ⟨rfl,(zb1 w)⟩)
theorem Qe6 {k : IntKind} {B:Nat} {ys:List Int} {a:Option Addr} {n c:Nat} {W:World} (h:RdK k B ys (.slice a n c) W) (h0:0<ys.length):∃ g o,a=some ⟨g,o,none⟩∧g<B∧g<W.heap.size∧∀ i,i<ys.length→W.cell? ⟨g,o+i,none⟩=some (.int k (nth ys i)):=by
  obtain ⟨a',cap',e,h2,h3,h4,h5⟩:=h
  simp only [Value.slice.injEq] at e
  obtain ⟨rfl,-,-⟩:=e
  rcases h5 with h5 | ⟨g,o,q1,q2,q3,q4⟩
  · rw [h5] at h0; simp at h0
  · exact ⟨g,o,q1,q2,q3,q4⟩
theorem QlW (b : List Int) (i:Nat):zbu.wrap (nth b i)=wv (zbs 32 (nth b i)):=by rw [Sha.wrap32,QdN]
def le4 (b : List Int):Wd:=zbs 32 (nth b 0)|||zbs 32 (nth b 1)<<<8|||zbs 32 (nth b 2)<<<16|||zbs 32 (nth b 3)<<<24
theorem QnT (b : List Int) (v:Value) (B:Nat) (w:World) (hb:RdK .u8 B b v w) (hl:b.length=4):Calls Tryz.prog 86 #[v] w (Ret w (.int .u32 (wv (le4 b)))):=by
  obtain ⟨a_b,c_b,rfl,-⟩:=id hb
  obtain ⟨gb,ob,rfl,-,hgb,hcb⟩:=Qe6 hb oo
  refine enter 25 [(0,.slice (some ⟨gb,ob,none⟩) b.length c_b)] Tryz.func86 rfl rfl kj rfl <| sgB kj <| wp_seq_k fun K2 hK2=>QaT 21 [⟨none,[(0,none)]⟩,⟨none,[(3,some 0)]⟩,⟨none,[(4,some 1)]⟩,⟨none,[(5,some 2)]⟩,⟨none,[(0,none)]⟩,⟨none,[(7,some 4)]⟩,⟨none,[(8,some 5)]⟩,⟨none,[(9,some 6)]⟩,⟨none,[(10,some 7)]⟩,⟨none,[(6,some 3),(11,some 8)]⟩,⟨none,[(0,none)]⟩,⟨none,[(13,some 10)]⟩,⟨none,[(14,some 11)]⟩,⟨none,[(15,some 12)]⟩,⟨none,[(16,some 13)]⟩,⟨none,[(12,some 9),(17,some 14)]⟩,⟨none,[(0,none)]⟩,⟨none,[(19,some 16)]⟩,⟨none,[(20,some 17)]⟩,⟨none,[(21,some 18)]⟩,⟨none,[(22,some 19)]⟩] kj kj fun F hF=>Qa2 (Qam _) (.slice (some ⟨gb,ob,none⟩) b.length c_b) kj kj (fun _=>kj) <| Qa2 (Qam _) (pp gb (ob+0)) kj kj (fun W=>(Qct 41 _ _ .i64 (0) gb ob b.length c_b 5 rfl kj kj kj kj oo)) <| QaN (Qam _) (.int .u8 (nth (b) (0))) kj kj (fun W hR=>(QaB 5 _ _ (.int .u8 (nth (b) (0))) ((Below.cell (zb2 (zb2 (zb1 w) (Qan _)) hR) hgb).trans (hcb 0 oo)) rfl kj kj)) <| Qa2 (Qam _) (.int .u32 (wv (zbs 32 (nth b 0)))) kj kj (fun W=>(Qac (u:=.int .u32 (zbu.wrap (nth (b) (0)))) kj (congrArg (zaH .u32) (QlW b 0)))) <| Qa2 (Qam _) (.slice (some ⟨gb,ob,none⟩) b.length c_b) kj kj (fun _=>kj) <| Qa2 (Qam _) (pp gb (ob+1)) kj kj (fun W=>(Qct 41 _ _ .i64 (1) gb ob b.length c_b 5 rfl kj kj kj kj oo)) ?_
  refine QaN (Qam _) (.int .u8 (nth (b) (1))) kj kj (fun W hR=>(QaB 5 _ _ (.int .u8 (nth (b) (1))) ((Below.cell (zb2 (zb2 (zb1 w) (Qan _)) hR) hgb).trans (hcb 1 oo)) rfl kj kj)) <| Qa2 (Qam _) (.int .u32 (wv (zbs 32 (nth b 1)))) kj kj (fun W=>(Qac (u:=.int .u32 (zbu.wrap (nth (b) (1)))) kj (congrArg (zaH .u32) (QlW b 1)))) <| Qa2 (Qam _) (.int .u32 (wv (zbs 32 (nth b 1)<<<8))) kj kj (fun W=>(QaO .shl _ _ _ _ .u32 .u64 _ _ _ rfl kj kj (Qef _ _ _ _ _ _ dd (Qhm _ _ 8 rfl dd)))) <| Qa2 (Qam _) (.int .u32 (wv (((zbs 32 (nth b 0)))|||((zbs 32 (nth b 1)<<<8))))) kj kj (fun W=>(Qac kj (congrArg (zaH .u32) (w_or _ _)))) <| Qa2 (Qam _) (.slice (some ⟨gb,ob,none⟩) b.length c_b) kj kj (fun _=>kj) <| Qa2 (Qam _) (pp gb (ob+2)) kj kj (fun W=>(Qct 41 _ _ .i64 (2) gb ob b.length c_b 5 rfl kj kj kj kj oo)) <| QaN (Qam _) (.int .u8 (nth (b) (2))) kj kj (fun W hR=>(QaB 5 _ _ (.int .u8 (nth (b) (2))) ((Below.cell (zb2 (zb2 (zb1 w) (Qan _)) hR) hgb).trans (hcb 2 oo)) rfl kj kj)) <| Qa2 (Qam _) (.int .u32 (wv (zbs 32 (nth b 2)))) kj kj (fun W=>(Qac (u:=.int .u32 (zbu.wrap (nth (b) (2)))) kj (congrArg (zaH .u32) (QlW b 2)))) <| Qa2 (Qam _) (.int .u32 (wv (zbs 32 (nth b 2)<<<16))) kj kj (fun W=>(QaO .shl _ _ _ _ .u32 .u64 _ _ _ rfl kj kj (Qef _ _ _ _ _ _ dd (Qhm _ _ 16 rfl dd)))) <| Qa2 (Qam _) (.int .u32 (wv (((((zbs 32 (nth b 0)))|||((zbs 32 (nth b 1)<<<8))))|||((zbs 32 (nth b 2)<<<16))))) kj kj (fun W=>(Qac kj (congrArg (zaH .u32) (w_or _ _)))) ?_
  refine Qa2 (Qam _) (.slice (some ⟨gb,ob,none⟩) b.length c_b) kj kj (fun _=>kj) <| Qa2 (Qam _) (pp gb (ob+3)) kj kj (fun W=>(Qct 41 _ _ .i64 (3) gb ob b.length c_b 5 rfl kj kj kj kj oo)) <| QaN (Qam _) (.int .u8 (nth (b) (3))) kj kj (fun W hR=>(QaB 5 _ _ (.int .u8 (nth (b) (3))) ((Below.cell (zb2 (zb2 (zb1 w) (Qan _)) hR) hgb).trans (hcb 3 oo)) rfl kj kj)) <| Qa2 (Qam _) (.int .u32 (wv (zbs 32 (nth b 3)))) kj kj (fun W=>(Qac (u:=.int .u32 (zbu.wrap (nth (b) (3)))) kj (congrArg (zaH .u32) (QlW b 3)))) <| Qa2 (Qam _) (.int .u32 (wv (zbs 32 (nth b 3)<<<24))) kj kj (fun W=>(QaO .shl _ _ _ _ .u32 .u64 _ _ _ rfl kj kj (Qef _ _ _ _ _ _ dd (Qhm _ _ 24 rfl dd)))) <| Qc3 (hF _ fun W1 e1=>?_)
  simp only [List.nil_append,zbb,List.take_succ_cons,List.take_zero,List.drop_succ_cons,List.drop_zero,finE,up]
  clear hF
  refine sv (.int .u32 (wv (((((((zbs 32 (nth b 0)))|||((zbs 32 (nth b 1)<<<8))))|||((zbs 32 (nth b 2)<<<16))))|||((zbs 32 (nth b 3)<<<24))))) 24 (Qac kj (congrArg (zaH .u32) (w_or _ _))) <| sg 1 kj <| sgN hK2 <| wp_ret ?_
  with_reducible repeat first | refine goR1 ?_ | refine goR2 ?_
  exact (show bodyPost _ _ _ .ret _ _ from ret1 (.int .u32 (wv (((((((zbs 32 (nth b 0)))|||((zbs 32 (nth b 1)<<<8))))|||((zbs 32 (nth b 2)<<<16))))|||((zbs 32 (nth b 3)<<<24))))) rfl (Qax kj) ⟨rfl,(Ext.tr (zb1 w) e1)⟩)
end Cha
end
section
namespace Cha
open Go Go.RowKit
open Rely Auto Own Sha
open Sha
theorem QiM {P : Program} {ρ:Operand→Value} {o:Oper} {w:World} (t:TypeId) (x y z:Operand) (l h g off len cap:Nat) (e:TypeId) (ho:o.op=.slice t x (some y) (some z) none) (hx:ρ x=.slice (some ⟨g,off,none⟩) len cap)
    (hu:P.underlying t=some (.slice e)) (hs:(P.info? e).map (·.size)=some 1) (hy:ρ y=.int .i64 (l:Int)) (hz:ρ z=.int .i64 (h:Int)) (h1:l≤h) (h2:h≤cap) (h3:l<cap) :
    (execOp ρ o).run P w=.ok (.value (.slice (some ⟨g,off+l,none⟩) (h-l) (cap-l))) w:=by
  cases hq:P.info? e with
  | none=>simp [hq] at hs
  | some i =>
    have hs':i.size=1:=by simpa [hq] using hs
    have hadd:(⟨g,off,none⟩:Addr).add l=⟨g,off+l,none⟩:=WideShapes.add_plain ..
    have hne:¬ cap=l:=by omega
    unfold execOp
    simp [ho,hx,hy,hz,Instr.sliceAt,Instr.slice,Instr.sliceBounds,run_sliceBound,run_underlying hu,sizeOf,typeInfo,hq,hs',h1,h2,hadd,hne]
def sub4 (b : List Int) (i:Nat):List Int:=(b.drop (4*i)).take 4
theorem QfW (b : List Int) (i:Nat) (h:4*i+4≤b.length):(sub4 b i).length=4:=by
  unfold sub4
  rw [zbt,zbr]; omega
theorem Qld (b : List Int) (i j:Nat) (h:j<4):nth (sub4 b i) j=nth b (4*i+j):=by
  unfold nth sub4
  rw [zaF,zaF,zbh,if_pos h,List.getElem?_drop]
theorem QjJ {B g o c:Nat} {xs:List Int} {W:World} (hx:RdK .u8 B xs (.slice (some ⟨g,o,none⟩) xs.length c) W) (i:Nat) (hi:4*i+4≤xs.length):RdK .u8 B (sub4 xs i) (.slice (some ⟨g,o+4*i,none⟩) 4 (c-4*i)) W:=by
  obtain ⟨a,cap,e,h2,h3,h4,h5⟩:=hx
  simp only [Value.slice.injEq] at e
  obtain ⟨rfl,-,rfl⟩:=e
  have hl:=QfW xs i hi
  rcases h5 with h5 | ⟨g',o',q1,q2,q3,q4⟩
  · rw [h5] at hi; simp at hi
  · obtain ⟨rfl,rfl⟩:g=g'∧o=o':=by simpa using q1
    refine ⟨some ⟨g,o+4*i,none⟩,c-4*i,by rw [hl],by omega,by omega,(fun h=>by cases h),.inr ⟨g,o+4*i,rfl,q2,q3,fun j hj=>?_⟩⟩
    rw [Qld _ _ _ oo,Nat.add_assoc]
    exact q4 _ oo
set_option maxRecDepth 100000 in
theorem Qmm (key nonce:List Int) (v:Value) (B:Nat) (th:TypeId) (w:World) (hh:w.heap[0]? = some (.cells (ints .u32 qH) th)) (hkl:key.length=32) (hn:RdK .u8 B nonce v w) (hnl:nonce.length=12):Calls Tryz.prog 72 #[.agg (ints .u8 key),v] w (Ret w (.agg (ints .u32 [1634760805,857760878,2036477234,1797285236,wv (le4 (sub4 key 0)),wv (le4 (sub4 key 1)),wv (le4 (sub4 key 2)),wv (le4 (sub4 key 3)),wv (le4 (sub4 key 4)),wv (le4 (sub4 key 5)),wv (le4 (sub4 key 6)),wv (le4 (sub4 key 7)),0,wv (le4 (sub4 nonce 0)),wv (le4 (sub4 nonce 1)),wv (le4 (sub4 nonce 2))]))):=by
 obtain ⟨a_n,c_n,rfl,hnc,-,-,-⟩:=id hn
 obtain ⟨gn,on,rfl,-,hgn,hcn⟩:=Qe6 hn oo
 obtain ⟨T_,hT⟩:∃ z:List Int,z=[1634760805,857760878,2036477234,1797285236,wv (le4 (sub4 key 0)),wv (le4 (sub4 key 1)),wv (le4 (sub4 key 2)),wv (le4 (sub4 key 3)),wv (le4 (sub4 key 4)),wv (le4 (sub4 key 5)),wv (le4 (sub4 key 6)),wv (le4 (sub4 key 7)),0,wv (le4 (sub4 nonce 0)),wv (le4 (sub4 nonce 1)),wv (le4 (sub4 nonce 2))]:=⟨_,rfl⟩
 have hTl:T_.length=16:=by rw [hT]; rfl
 have hTh:∀ i,i<4→nth qH i=nth T_ i:=fun i hi=>by rw [hT]; rcases (show i=0∨i=1∨i=2∨i=3 by omega) with rfl | rfl | rfl | rfl <;> rfl
 have hTk:∀ i,i<8→nth T_ (4+i)=wv (le4 (sub4 key i)):=fun i hi=>by rw [hT]; rcases (show i=0∨i=1∨i=2∨i=3∨i=4∨i=5∨i=6∨i=7 by omega) with rfl | rfl | rfl | rfl | rfl | rfl | rfl | rfl <;> rfl
 have hTn:∀ i,i<3→nth T_ (13+i)=wv (le4 (sub4 nonce i)):=fun i hi=>by rw [hT]; rcases (show i=0∨i=1∨i=2 by omega) with rfl | rfl | rfl <;> rfl
 have hT12:fill T_ 16 12=fill T_ 16 13:=by rw [hT]; rfl
 refine enter 49 [(0,.agg (ints .u8 (key))),(1,.slice (some ⟨gn,on,none⟩) nonce.length c_n)] Tryz.func72 rfl rfl kj rfl <| sgC fun K2 hK2=>Qah (ints .u8 (key)) 74 2 rfl kj kj fun g3 W1 l3 e1 r3_1=>?_
 have x1:=Ext.tr (zb1 w) e1
 have b3:=qT (zb1 w).size l3
 refine Qah (ints .u32 (zaa 16 0)) 140 4 rfl kj kj fun g4 W2 l4 e2 r4_2=>?_
 have x2:=Ext.tr x1 e2
 refine sgN hK2 <| sgC fun K5 hK5=>Qah (ints .u32 (zaa 16 0)) 140 5 rfl kj kj fun g6 W3 l6 e3 r6_3=>?_
 have b6:=qT x2.size l6
 refine sgN hK5 <| wp_seq_k fun K7 hK7=>sgC fun K8 hK8=>sv (.agg (ints .u32 (qH))) 10 (Qae 152 _ 0 th _ _ (Qaa (Qaa (Qaa hh e1) e2) e3) rfl kj kj (isz (n:=4) kj kj)) <| sg 1 kj <| sgN hK8 <| wp_block <| Qa3 (fun (s1:Nat)=>[(1,.slice (some ⟨gn,on,none⟩) nonce.length c_n),(2,pp g3 0),(4,pp g4 0),(5,pp g6 0),(10,.agg (ints .u32 (qH))),(11,.int .i64 (s1:Int))]) (fun (s1:Nat) W=>(s1≤4)∧(W.heap[g6]? = some (.cells (ints .u32 (fill T_ 16 (s1))) 140))∧(Qai [g6] W3 W)∧(Ext w W)) (fun (s1:Nat)=>4-s1) 0 ⟨kj,kj,kj,kj,kj,kj,trivial⟩ ⟨(zaV _),(Qa9 r6_3 (QcE T_ 16).symm),(Qai.refl [g6] W3),(Ext.tr x2 e3)⟩ fun s1 X1 V1 hI1=>?_
 obtain ⟨i,hs1⟩:∃ z,z=s1:=⟨_,rfl⟩
 subst hs1
 obtain ⟨hi,q6_1,kk1,xx1⟩:=hI1
 replace hi:i≤4:=hi
 replace q6_1:V1.heap[g6]? = some (.cells (ints .u32 (fill T_ 16 (i))) 140):=q6_1
 replace kk1:Qai [g6] W3 V1:=kk1
 replace xx1:Ext w V1:=xx1
 have q4:=kk1
 refine sgB kj <| wp_seq_k fun K10 hK10=>Qay (t:=decide ((i:Int)<4)) kj (fun c11=>?_) (fun c11=>?_)
 ·skip
  have hlt12:i<4:=by have:=of_decide_eq_true c11; omega
  refine wp_skip <| hK10 _ _ <| wp_seq_k fun K12 hK12=>wp_block <| sgC fun K13 hK13=>sg 1 kj <| sv (.int .u32 (nth T_ i)) 14 (QaE 152 _ _ .i64 .u32 (qH) i 4 139 (nth T_ i) rfl kj kj kj kj kj rfl oo (hTh i hlt12)) <| sg 2 kj <| sgN hK13 <| Qaj ?_
  refine sg 2 kj <| sv (pp g6 i) 17 (Qa7 _ _ _ .i64 (i) _ 16 139 rfl kj kj kj kj oo) <| Qag g6 _ (ints .u32 ((fill T_ 16 (i)).set i (nth T_ i))) 140 q6_1 rfl kj (Qa0 139 _ _ g6 i 140 _ _ q6_1 rfl kj kj kj (zb0 oo (Qb4 hTl oo).symm)) fun W5 p5 r6_5=>Qas <| hK12 _ _ <| Qaj <| sv (.int .i64 ((i+1:Nat):Int)) 18 (Qac (u:=.int .i64 (zbm.wrap ((i:Int)+1))) kj (congrArg (zaH .i64) (i64n _ _ oo oo))) <| sg 1 kj <| Qas ?_
  with_reducible repeat first | refine goX1 ?_ | refine goX2 ?_ | refine goX3 ?_
  exact Qa1 (i+1) ⟨kj,kj,kj,kj,kj,kj,trivial⟩ ⟨oo,(Qa9 r6_5 (Qcl hTl oo)),(Qai.puts q4 p5 (.inl (by simp))),(Puts.ext p5 xx1 b6)⟩ (by show 4-(i+1)<4-i; omega)
 ·skip
  have heq12:i=4:=by have:=of_decide_eq_false c11; omega
  refine wp_exit <| hK7 _ _ <| wp_seq_k fun K14 hK14=>sgB kj <| wp_block <| Qa3 (fun (s2:Nat)=>[(1,.slice (some ⟨gn,on,none⟩) nonce.length c_n),(2,pp g3 0),(4,pp g4 0),(5,pp g6 0),(10,.agg (ints .u32 (qH))),(19,.int .i64 (s2:Int))]) (fun (s2:Nat) W=>(s2≤8)∧(W.heap[g6]? = some (.cells (ints .u32 (fill T_ 16 (4+s2))) 140))∧(Qai [g6] V1 W)∧(Ext w W)) (fun (s2:Nat)=>8-s2) 0 ⟨kj,kj,kj,kj,kj,kj,trivial⟩ ⟨(zaV _),(Qa9 q6_1 (by rw [heq12])),(Qai.refl [g6] V1),xx1⟩ fun s2 X2 V2 hI2=>?_
  obtain ⟨i,hs2⟩:∃ z,z=s2:=⟨_,rfl⟩
  subst hs2
  obtain ⟨hi,q6_2,kk2,xx2⟩:=hI2
  replace hi:i≤8:=hi
  replace q6_2:V2.heap[g6]? = some (.cells (ints .u32 (fill T_ 16 (4+i))) 140):=q6_2
  replace kk2:Qai [g6] V1 V2:=kk2
  replace xx2:Ext w V2:=xx2
  have q5:=kk2
  refine sgB kj <| wp_seq_k fun K17 hK17=>Qay (t:=decide ((i:Int)<8)) kj (fun c18=>?_) (fun c18=>?_)
  ·skip
   have hlt20:i<8:=by have:=of_decide_eq_true c18; omega
   refine wp_skip <| hK17 _ _ <| wp_seq_k fun K19 hK19=>wp_block <| sgB kj <| Qaj <| sg 1 kj <| sv (.int .i64 ((4+i:Nat):Int)) 23 (Qac (u:=.int .i64 (zbm.wrap (4+(i:Int)))) kj (congrArg (zaH .i64) (i64n _ _ oo oo))) <| sg 1 kj <| sv (.int .i64 ((4*i:Nat):Int)) 25 (Qac (u:=.int .i64 (zbm.wrap (4*(i:Int)))) kj (congrArg (zaH .i64) (i64n _ _ oo oo))) ?_
   refine sg 1 kj <| sv (.int .i64 ((4*i:Nat):Int)) 27 (Qac (u:=.int .i64 (zbm.wrap (4*(i:Int)))) kj (congrArg (zaH .i64) (i64n _ _ oo oo))) <| sv (.int .i64 (((4*i)+4:Nat):Int)) 28 (Qac (u:=.int .i64 (zbm.wrap (((4*i:Nat):Int)+4))) kj (congrArg (zaH .i64) (i64n _ _ oo oo))) <| sv (.slice (some ⟨g3,0+4*i,none⟩) 4 (32-4*i)) 29 (Eq.trans (QbA 74 _ _ _ (4*i) (4*i+4) 32 g3 0 5 rfl kj kj kj ⟨.i64,by kernel_rfl⟩ ⟨.i64,by kernel_rfl⟩ oo oo oo) (by rw [show 4*i+4-4*i=4 by omega])) ?_
   have r3_2:=(Qaa r3_1 e2)
   have r3_5:=(Qai.row q5 (Qai.row q4 (Qaa r3_2 e3) (Qaw (Qad r3_2 l6) QaF)) (Qaw (Qad r3_2 l6) QaF))
   refine Qao (.int .u32 (wv (le4 (sub4 key i)))) 86 #[.slice (some ⟨g3,0+4*i,none⟩) 4 (32-4*i)] 30 rfl kj kj ((QnT (sub4 key i) _ _ _ (QjJ (xs:=key) (by rw [hkl]; exact QaL (xs:=key) (n:=32) hkl r3_5 (Qaq r3_5) dd) i oo) (QfW _ _ oo))) fun W6 e6=>?_
   refine sv (pp g6 (4+i)) 31 (Qa7 _ _ _ .i64 (4+i) _ 16 139 rfl kj kj kj kj oo) ?_
   have r6_6:=(Qaa q6_2 e6)
   refine Qag g6 _ (ints .u32 ((fill T_ 16 (4+i)).set (4+i) (wv (le4 (sub4 key i))))) 140 r6_6 rfl kj (Qa0 139 _ _ g6 (4+i) 140 _ _ r6_6 rfl kj kj kj (zb0 oo (Qb4 hTl oo).symm)) fun W7 p7 r6_7=>?_
   have x7:=Puts.ext p7 (Ext.tr xx2 e6) b6
   refine Qas <| hK19 _ _ <| Qaj <| sv (.int .i64 ((i+1:Nat):Int)) 32 (Qac (u:=.int .i64 (zbm.wrap ((i:Int)+1))) kj (congrArg (zaH .i64) (i64n _ _ oo oo))) <| sg 1 kj <| Qas ?_
   with_reducible repeat first | refine goX1 ?_ | refine goX2 ?_ | refine goX3 ?_
   exact Qa1 (i+1) ⟨kj,kj,kj,kj,kj,kj,trivial⟩ ⟨oo,(Qa9 r6_7 (by rw [←hTk i hlt20]; exact Qcl hTl oo)),(Qai.puts (Qai.step q5 e6) p7 (.inl (by simp))),x7⟩ (by show 8-(i+1)<8-i; omega)
  ·skip
   have heq20:i=8:=by have:=of_decide_eq_false c18; omega
   refine wp_exit <| hK14 _ _ <| wp_seq_k fun K21 hK21=>sgB kj <| wp_block <| Qa3 (fun (s3:Nat)=>[(1,.slice (some ⟨gn,on,none⟩) nonce.length c_n),(2,pp g3 0),(4,pp g4 0),(5,pp g6 0),(10,.agg (ints .u32 (qH))),(33,.int .i64 (s3:Int))]) (fun (s3:Nat) W=>(s3≤3)∧(W.heap[g6]? = some (.cells (ints .u32 (fill T_ 16 (13+s3))) 140))∧(Qai [g6] V2 W)∧(Ext w W)) (fun (s3:Nat)=>3-s3) 0 ⟨kj,kj,kj,kj,kj,kj,trivial⟩ ⟨(zaV _),(Qa9 q6_2 (by rw [heq20]; exact hT12)),(Qai.refl [g6] V2),xx2⟩ fun s3 X3 V3 hI3=>?_
   obtain ⟨i,hs3⟩:∃ z,z=s3:=⟨_,rfl⟩
   subst hs3
   obtain ⟨hi,q6_3,kk3,xx3⟩:=hI3
   replace hi:i≤3:=hi
   replace q6_3:V3.heap[g6]? = some (.cells (ints .u32 (fill T_ 16 (13+i))) 140):=q6_3
   replace kk3:Qai [g6] V2 V3:=kk3
   replace xx3:Ext w V3:=xx3
   have q6:=kk3
   refine sgB kj <| wp_seq_k fun K24 hK24=>Qay (t:=decide ((i:Int)<3)) kj (fun c25=>?_) (fun c25=>?_)
   ·skip
    have hlt34:i<3:=by have:=of_decide_eq_true c25; omega
    refine wp_skip <| hK24 _ _ <| wp_seq_k fun K26 hK26=>wp_block <| sgB kj <| Qaj <| sg 1 kj <| sv (.int .i64 ((13+i:Nat):Int)) 37 (Qac (u:=.int .i64 (zbm.wrap (13+(i:Int)))) kj (congrArg (zaH .i64) (i64n _ _ oo oo))) <| sg 2 kj <| sv (.int .i64 ((4*i:Nat):Int)) 40 (Qac (u:=.int .i64 (zbm.wrap (4*(i:Int)))) kj (congrArg (zaH .i64) (i64n _ _ oo oo))) ?_
    refine sg 1 kj <| sv (.int .i64 ((4*i:Nat):Int)) 42 (Qac (u:=.int .i64 (zbm.wrap (4*(i:Int)))) kj (congrArg (zaH .i64) (i64n _ _ oo oo))) <| sv (.int .i64 (((4*i)+4:Nat):Int)) 43 (Qac (u:=.int .i64 (zbm.wrap (((4*i:Nat):Int)+4))) kj (congrArg (zaH .i64) (i64n _ _ oo oo))) <| sv (.slice (some ⟨gn,on+4*i,none⟩) 4 (c_n-4*i)) 44 ((QiM 41 _ _ _ (4*i) (4*i+4) gn on nonce.length c_n 5 rfl kj kj kj kj kj oo oo oo).trans (by rw [show 4*i+4-4*i=4 by omega])) <| Qao (.int .u32 (wv (le4 (sub4 nonce i)))) 86 #[.slice (some ⟨gn,on+4*i,none⟩) 4 (c_n-4*i)] 45 rfl kj kj ((QnT (sub4 nonce i) _ _ _ (QjJ (xs:=nonce) (hn.ext xx3) i oo) (QfW _ _ oo))) fun W7 e7=>?_
    have x7:=Ext.tr xx3 e7
    refine sv (pp g6 (13+i)) 46 (Qa7 _ _ _ .i64 (13+i) _ 16 139 rfl kj kj kj kj oo) ?_
    have r6_7:=(Qaa q6_3 e7)
    refine Qag g6 _ (ints .u32 ((fill T_ 16 (13+i)).set (13+i) (wv (le4 (sub4 nonce i))))) 140 r6_7 rfl kj (Qa0 139 _ _ g6 (13+i) 140 _ _ r6_7 rfl kj kj kj (zb0 oo (Qb4 hTl oo).symm)) fun W8 p8 r6_8=>Qas <| hK26 _ _ <| Qaj <| sv (.int .i64 ((i+1:Nat):Int)) 47 (Qac (u:=.int .i64 (zbm.wrap ((i:Int)+1))) kj (congrArg (zaH .i64) (i64n _ _ oo oo))) <| sg 1 kj <| Qas ?_
    with_reducible repeat first | refine goX1 ?_ | refine goX2 ?_ | refine goX3 ?_
    exact Qa1 (i+1) ⟨kj,kj,kj,kj,kj,kj,trivial⟩ ⟨oo,(Qa9 r6_8 (by rw [←hTn i hlt34]; exact Qcl hTl oo)),(Qai.puts (Qai.step q6 e7) p8 (.inl (by simp))),(Puts.ext p8 x7 b6)⟩ (by show 3-(i+1)<3-i; omega)
   ·skip
    have heq34:i=3:=by have:=of_decide_eq_false c25; omega
    have r6_6_28:V3.heap[g6]? = some (.cells (ints .u32 (T_)) 140):=Qa9 q6_3 (by rw [heq34]; exact QcF hTl)
    refine wp_exit <| hK21 _ _ <| sgC fun K29 hK29=>sv (.agg (ints .u32 (T_))) 48 (Qae 140 _ g6 140 _ _ r6_6_28 rfl kj kj (isz (n:=16) kj (izT hTl))) ?_
    have r4_6:=(Qai.row q6 (Qai.row q5 (Qai.row q4 (Qaa r4_2 e3) (Qaw (Qad r4_2 l6) QaF)) (Qaw (Qad r4_2 l6) QaF)) (Qaw (Qad r4_2 l6) QaF))
    refine Qag g4 _ (ints .u32 (T_)) 140 r4_6 rfl kj (Qaf 140 _ _ g4 140 _ _ r4_6 rfl kj kj (isz (n:=16) kj (izT hTl)) (eqsz (n:=16) (izT (qZ (n:=16))) (izT hTl)) (Qat _ _)) fun W7 p7 r4_7=>?_
    have x7:=Puts.ext p7 xx3 (qT x1.size l4)
    refine sgN hK29 <| wp_ret ?_
    with_reducible repeat first | refine goR1 ?_ | refine goR2 ?_
    exact (show bodyPost _ _ _ .ret _ _ from ret1 (.agg (ints .u32 (T_))) rfl (QaJ g4 140 _ r4_7 kj kj (isz (n:=16) kj (izT hTl))) ⟨by rw [hT],x7⟩)
end Cha
end
section
namespace Cha
open Go Go.RowKit
open Rely Auto Own Sha
open Sha
end Cha
end
section
namespace Auto
open Go Go.RowKit
open Rely
section
variable {P : Program} {Rd : World → Prop} {w0 : World} {base N : Nat} {L : Env} {U : List Nat} {F : List Kn → Prop} {o : Oper} {os : List Oper} {s : Src} {ss : List Src} {C : List Kn}
theorem Qbf (v : Value) (hs:seen C o s=true) (hg:gOk s.guard (get (envS N L (C.map zb3) s.reads))=true) (hd:o.dst.isNone=false)
    (h:∀ W,(execOp (Rely.look (get (envS N L (C.map zb3) s.reads))) o).run P W=.ok (.value v) W)
    (hk:Qcn P Rd w0 base N L U F os ss (C++[.is v])):Qcn P Rd w0 base N L U F (o::os) (s::ss) C :=
  ⟨.is v,(fun hn=>by rw [hd] at hn; cases hn),(fun _=>by
    split
    · exact ⟨hs,v,rfl,fun W _=>Qcc hg (h W)⟩
    · intro ρ W hR hh
      rw [Qcr hs hh]
      refine Qcc hg ?_
      unfold QcI
      rw [QcU hs hh,h W]
      exact ⟨zb1 _,rfl⟩),hk⟩
theorem Qmk (v : Value) (f:FuncId) (args:Array Value) (hu:U.contains C.length=false) (hs:seen C o s=true) (hg:gOk s.guard (get (envS N L (C.map zb3) s.reads))=true) (hd:o.dst.isNone=false)
    (h:∀ W,(execOp (Rely.look (get (envS N L (C.map zb3) s.reads))) o).run P W=.ok (.enter f args) W) (hc:∀ W,Ext w0 W→Calls P f args W (Ret W v))
    (hk:Qcn P Rd w0 base N L U F os ss (C++[.is v])):Qcn P Rd w0 base N L U F (o::os) (s::ss) C :=
  t_op (.is v) hu hs hg hd (fun W hR=>by
    rw [h]
    exact ⟨zb1 _,(hc W hR).mono fun _ _ h=>h.const⟩) hk
theorem Qpm (cs : Array Value) (T:TypeId) (hu:U.contains C.length=false) (hs:seen C o s=true) (hb:base≤w0.heap.size) (hg:gOk s.guard (get (envS N L (C.map zb3) s.reads))=true) (hd:o.dst.isNone=false)
    (h:∀ W,(execOp (Rely.look (get (envS N L (C.map zb3) s.reads))) o).run P W=.ok (.value (pp W.heap.size 0)) (W.alloc (.cells cs T)))
    (hk:Qcn P Rd w0 base N L U F os ss (C++[.new cs T])):Qcn P Rd w0 base N L U F (o::os) (s::ss) C :=
  t_op (.new cs T) hu hs hg hd (fun W hR=>by
    rw [h]
    refine ⟨Qbi _ _,_,rfl,?_,heap_alloc_new _ _⟩
    have:=hR.size
    omega) hk
end
end Auto
end
end Go.Proofs.YtbonglpnkoegoaaGreatDoor
