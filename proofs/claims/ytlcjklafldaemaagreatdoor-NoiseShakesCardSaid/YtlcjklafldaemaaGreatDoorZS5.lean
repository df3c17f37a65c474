/- Texts of this claim, joined (S5). -/
import Derived.Test.YtlcjklafldaemaaGreatDoorZS4
import Derived.Lib.SmallJoins
import Derived.Lib.LaidTab

set_option linter.unusedVariables false
set_option linter.unusedSimpArgs false
set_option maxHeartbeats 4000000
open Go.Region renaming ready → zaa, wanted → zab, binds → zac
open Go.Value renaming agg → zad, slice → zav, int → za0, bool → za6
open List renaming replicate → zae, nil_append → zag, cons_append → zah, mem_cons → zai, not_mem_nil → zaj, map_cons → zak, map_nil → zal, flatten_cons → zam, flatten_nil → zan, append_nil → zao, length_append → zap, map → zaq, take_succ_cons → zar, take_zero → zas, drop_succ_cons → zat, drop_zero → zau, length_take → zaw, length_drop → zax, length_map → za1, append_assoc → za2, map_append → za3, take_left' → za4, drop_left' → za5, mem_replicate → za7, getElem?_eq_getElem → za8, take_add → zaE, take_of_length_le → zaF, mem_append_left → zaG, mem_range → zaH, range → zaJ, getElem?_map → zaK, getElem?_eq_none → zaL
open Nat renaming le_of_ble_eq_true → zaf
open Option renaming map_some → zay, bind_some → zaI
open Go.World renaming cell? → zaz
open Go.IntKind renaming min → za9, max → zaA, signed → zaB, bits → zaC
open Array renaming length_toList → zaD
namespace Go.Proofs.YtlcjklafldaemaaGreatDoor
open Rely.Ext renaming refl → zaM, trans → zaN
open Auto.Puts renaming row → zaO, ext → zaP
open Auto.Ext renaming tr → zaQ
open Own.ExtB renaming refl → zaR, ext → zaS, row → zaT, up → zaU, trans → zaV
open Auto.NewS renaming stable → zaW
open Auto.OwnN renaming base → zaX, rd → zaY
open Auto.RdK renaming here → zaZ
section
namespace Wk
open Go Go.RowKit
open Rely Auto Own Sha
variable {P : Program} {ops : Array Oper} {Q : Exit → Act → World → Prop}
def allR (P : Program) (ops:Array Oper) (Q:Exit→Act→World→Prop) (Rd:World→Prop):Nat→Array Bool→Act→World→Prop
  | 0,listed,a,w=>zaa .any ops listed=[]∧Q .normal a w
  | fuel+1,listed,a,w=>(zaa .any ops listed=[]→Q .normal a w)∧∀ i∈zaa .any ops listed,wpOp P ops Q i (fun a' w'=>Rd w'∧allR P ops Q Rd fuel (listed.setIfInBounds i true) a' w') a w
theorem Qkr {Rd : World→Prop}:∀ (fuel:Nat) (listed:Array Bool) (a:Act) (w:World),allR P ops Q Rd fuel listed a w→wpAny P .any ops Q fuel listed a w
  | 0,_,_,_,h=>h
  | _+1,_,_,_,h=>⟨h.1,fun i hi=>wpOp_mono (fun a w h=>Qkr _ _ a w h.2) (h.2 i hi)⟩
def Qdh (P : Program) (ops:Array Oper) (Rd:World→Prop) (o:Oper) (v:Value) (a:Act):Prop :=
  (zab o (yielded ops a.tmps)=true∧∀ w,Rd w→(execOp a.eval o).run P w=.ok (.value v) w)∨(zab o (yielded ops a.tmps)=false∧v=undef)
theorem Qdh.wpOp {Rd : World→Prop} {i:Nat} {o:Oper} {v:Value} {a:Act} (hi:ops[i]? = some o) (hy:Qdh P ops Rd o v a) {K:Act→World→Prop} {w:World} (hw:Rd w) (h:K (a.put o.dst v) w):wpOp P ops Q i K a w:=by
  unfold Go.wpOp
  simp only [hi]
  rcases hy with ⟨hw1,hv⟩ | ⟨hw1,rfl⟩
  · simp only [hw1,if_true,Oper.wp,hv w hw,Oper.upon]; exact .inl h
  · simp only [hw1,Bool.false_eq_true,if_false]; exact h
theorem Qdh.same {Rd : World→Prop} {o:Oper} {v:Value} {a a':Act} (hy:Qdh P ops Rd o v a) (he:execOp a'.eval o=execOp a.eval o) (hw:zab o (yielded ops a'.tmps)=zab o (yielded ops a.tmps)):Qdh P ops Rd o v a':=by
  unfold Qdh at *
  rw [he,hw]
  exact hy
theorem Qpg {Rd : World→Prop} {j:Nat} {oi oj:Oper} {v:Value} (hj:ops[j]? = some oj) (hap:oi.apart ops oj=true) (hsi:∀ cs b,oi.op≠.select cs b) (hsj:∀ cs b,oj.op≠.select cs b)
    (hQ:∀ c a w,Q (.panic c) (a.put oi.dst v) w→Q (.panic c) a w) {K:Act→World→Prop} {a:Act} {w:World} (hy:Qdh P ops Rd oi v a) (h:wpOp P ops Q j K (a.put oi.dst v) w) :
    wpOp P ops Q j (fun a' w'=>Qdh P ops Rd oi v a'∧K (a'.put oi.dst v) w') a w:=by
  obtain ⟨h1,h2,h3⟩:=Oper.apart_spec hap
  have keep:∀ (a:Act),Qdh P ops Rd oi v a→∀ u,Qdh P ops Rd oi v (a.put oj.dst u):=fun a hy u=>hy.same (execOp_put oi hsi a oj.dst u h3) (wanted_put oi a oj.dst u h3)
  have keepD:∀ d,Qdh P ops Rd oi v { a with defers:=d::a.defers }:=fun d=>hy.same rfl rfl
  unfold wpOp at *
  simp only [hj] at *
  rw [wanted_put oj a oi.dst v h1] at h
  split
  · rename_i hw
    simp only [hw,if_true] at h
    rcases h with h | ⟨hasks,hlets⟩
    case inr=>exact .inr ⟨by unfold Oper.asks at *; rw [execOp_put oj hsj a oi.dst v h1] at hasks; exact hasks,hlets⟩
    refine .inl ?_
    unfold Oper.wp at *
    rw [execOp_put oj hsj a oi.dst v h1] at h
    generalize (execOp a.eval oj).run P w=r at *
    cases r with
    | ok n w' =>
      cases n <;> simp only [Oper.upon] at h ⊢
      case value u=>exact ⟨keep a hy u,by rw [←Act.put_comm a v u h2]; exact h⟩
      case skip=>exact ⟨keep a hy _,by rw [←Act.put_comm a v undef h2]; exact h⟩
      case defer d =>
        refine ⟨keep _ (keepD d) _,?_⟩
        rw [←Act.put_comm _ v undef h2,←Act.put_defers]
        exact h
      case enter f args =>
        refine Calls.mono h fun e w'' he=>?_
        cases e with
        | returned u=>exact ⟨keep a hy u,by rw [←Act.put_comm a v u h2]; exact he⟩
        | panicked c=>exact hQ _ _ _ he
        | outgrown=>exact he
      case row row args=>exact Rows.mono h fun u w'' he=>⟨keep a hy u,by rw [←Act.put_comm a v u h2]; exact he⟩
    | halt x w' =>
      cases x <;> simp only [Oper.upon] at h ⊢
      case panic u=>exact hQ _ _ _ h
  · rename_i hw
    simp only [hw] at h
    exact ⟨keep a hy _,by rw [←Act.put_comm a v undef h2]; exact h⟩
theorem Qle {Rd : World→Prop} {i:Nat} {oi:Oper} {v:Value} (hi:ops[i]? = some oi) (hsel:∀ (j:Nat) (o:Oper) cs b,ops[j]? = some o→o.op≠.select cs b) (hQ:∀ c a w,Q (.panic c) (a.put oi.dst v) w→Q (.panic c) a w) :
    ∀ (fuel:Nat) (listed:Array Bool) (a:Act) (w:World),Rd w →
      (∀ j oj,ops[j]? = some oj→j≠i→listed.getD j true=false→(∀ e∈oj.after,zac .any e=true→e.on≠i)→oi.apart ops oj=true) →
      i∈zaa .any ops listed→Qdh P ops Rd oi v a→allR P ops Q Rd fuel (listed.setIfInBounds i true) (a.put oi.dst v) w→allR P ops Q Rd (fuel+1) listed a w:=by
  intro fuel
  induction fuel with
  | zero =>
    intro listed a w hw _ hr hy H
    refine ⟨fun h=>(by rw [h] at hr; cases hr),fun j hj=>?_⟩
    by_cases hji:j=i
    · subst hji; exact hy.wpOp hi hw ⟨hw,H⟩
    · have:=ready_mono hj hji
      rw [H.1] at this
      cases this
  | succ fuel ih =>
    intro listed a w hw hfree hr hy H
    refine ⟨fun h=>(by rw [h] at hr; cases hr),fun j hj=>?_⟩
    by_cases hji:j=i
    · subst hji; exact hy.wpOp hi hw ⟨hw,H⟩
    · have h1:=H.2 j (ready_mono hj hji)
      obtain ⟨hjun,oj,hoj,hall⟩:=mem_ready.1 hj
      have hnot:∀ e∈oj.after,zac .any e=true→e.on≠i:=fun e he hb heq=>by
        have h1:=hall e he hb
        have h0:=(mem_ready.1 hr).1
        rw [heq] at h1
        rcases Nat.lt_or_ge i listed.size with h' | h'
        · simp [h'] at h0 h1; rw [h0] at h1; cases h1
        · simp [Array.getElem?_eq_none h'] at h1
      have h2:=Qpg hoj (hfree j oj hoj hji hjun hnot) (fun cs b=>hsel i oi cs b hi) (fun cs b=>hsel j oj cs b hoj) hQ hy h1
      have hfree':∀ k ok,ops[k]? = some ok→k≠i→(listed.setIfInBounds j true).getD k true=false→(∀ e∈ok.after,zac .any e=true→e.on≠i)→oi.apart ops ok=true:=fun k ok hk hki hun hno=>by
        refine hfree k ok hk hki ?_ hno
        by_cases hjk:j=k
        · subst hjk; exact hjun
        · rw [getD_set_ne true hjk] at hun; exact hun
      refine wpOp_mono (fun a' w' h3=>⟨h3.2.1,ih (listed.setIfInBounds j true) a' w' h3.2.1 hfree' (ready_mono hr (Ne.symm hji)) h3.1 ?_⟩) h2
      rw [Array.setIfInBounds_comm _ _ hji]
      exact h3.2.2
structure WB (P : Program) (ops : Array Oper) (Q : Exit → Act → World → Prop) (Rd : World → Prop) (fuel : Nat) (listed : Array Bool) (a : Act) (w : World) : Prop where
  out:Rd w→allR P ops Q Rd fuel listed a w
structure WO (P : Program) (ops : Array Oper) (Q : Exit → Act → World → Prop) (Rd : World → Prop) (k fuel : Nat) (listed : Array Bool) (a : Act) (w : World) : Prop where
  out:wpOp P ops Q k (fun a' w'=>Rd w'∧allR P ops Q Rd fuel (listed.setIfInBounds k true) a' w') a w
variable {o : Oper} {N : Nat} {L : Env} {w V : World} {ds : List Deferred} {fuel : Nat} {listed : Array Bool} {k : Nat} {a : Act} {Rd : World → Prop}
theorem QdC {id : Nat} {l:List Oper} (hm:P.follows .mixedOrders=true) (h:∀ W,Ext w W→WB P l.toArray Q (Ext W) l.length (Array.replicate l.length false) (Qau ds N L) W):(Code.region id l.toArray true).wp P Q (Qau ds N L) w:=by
  refine wp_region_any hm ?_
  have:=Qkr _ _ _ _ ((h w.drew (Qah w)).out (zaM _))
  simpa using this
theorem QbF (k : Nat) (v:Value) (d:Nat) (ho:ops[k]? = some o) (hd:o.dst=some d) (hg:Qcd ops o N L=some true) (hc:(Region.noSelect ops&&Region.free .any ops listed k&&(zaa .any ops listed).contains k)=true)
    (hQ:∀ c a w,Q (.panic c) (a.put o.dst v) w→Q (.panic c) a w) (h:∀ W,Rd W→(execOp (Rely.look (envN N L)) o).run P W=.ok (.value v) W) (kk:WB P ops Q Rd fuel (listed.setIfInBounds k true) (Qau ds N ((d,v)::L)) w):WB P ops Q Rd (fuel+1) listed (Qau ds N L) w:=by
  simp only [Bool.and_eq_true] at hc
  refine ⟨fun hw=>Qle ho (Region.noSelect_spec hc.1.1) hQ fuel listed _ w hw (Region.free_spec ho hc.1.2) (by simpa using hc.2) (.inl ⟨Qdd hg,fun W hW=>?_⟩) ?_⟩
  · rw [Qb3]; exact h W hW
  · rw [hd,Qby]; exact kk.out hw
theorem QeK (k : Nat) (hr:zaa .any ops listed=[k]) (h:WO P ops Q Rd k fuel listed a w):WB P ops Q Rd (fuel+1) listed a w :=
  ⟨fun _=>⟨fun h0=>(by rw [hr] at h0; cases h0),fun i hi=>by
    rw [hr] at hi; obtain rfl:i=k:=by simpa using hi
    exact h.out⟩⟩
theorem Qe3 (ho : ops[k]? = some o) (R:Value→World→Prop) (f:FuncId) (args:Array Value) (d:Nat) (hd:o.dst=some d) (hg:Qcd ops o N L=some true)
    (h:(execOp (Rely.look (envN N L)) o).run P w=.ok (.enter f args) w) (hc:Calls P f args w fun e w'=>∃ v,e=.returned v∧R v w') (hR:∀ v W,R v W→Rd W) (kk:∀ (v:Value) (W:World),R v W→WB P ops Q Rd fuel (listed.setIfInBounds k true) (Qau ds N ((d,v)::L)) W):WO P ops Q Rd k fuel listed (Qau ds N L) w:=by
  refine ⟨?_⟩
  unfold wpOp
  rw [ho]
  simp only [Qdd hg,if_true]
  refine .inl ?_
  unfold Oper.wp
  rw [Qb3,h]
  refine hc.mono ?_
  rintro e w' ⟨v,rfl,hw⟩
  show _∧allR _ _ _ _ _ _ _ _
  rw [hd,Qby]
  exact ⟨hR v w' hw,(kk v w' hw).out (hR v w' hw)⟩
theorem Qlj (ho : ops[k]? = some o) (R:Value→World→Prop) (d:Nat) (hd:o.dst=some d) (hg:Qcd ops o N L=some true) (h:∃ v W,(execOp (Rely.look (envN N L)) o).run P w=.ok (.value v) W∧R v W) (hR:∀ v W,R v W→Rd W)
    (kk:∀ (v:Value) (W:World),R v W→WB P ops Q Rd fuel (listed.setIfInBounds k true) (Qau ds N ((d,v)::L)) W):WO P ops Q Rd k fuel listed (Qau ds N L) w:=by
  obtain ⟨v,W,h1,h2⟩:=h
  refine ⟨?_⟩
  unfold wpOp
  rw [ho]
  simp only [Qdd hg,if_true]
  refine .inl ?_
  unfold Oper.wp
  rw [Qb3,h1]
  show _∧allR _ _ _ _ _ _ _ _
  rw [hd,Qby]
  exact ⟨hR v W h2,(kk v W h2).out (hR v W h2)⟩
def Ef (P : Program) (o:Oper) (ρ:Operand→Value) (W:World) (φ:Value→World→Prop):Prop :=
  (∃ v W',(execOp ρ o).run P W=.ok (.value v) W'∧Ext W W'∧φ v W')∨∃ f args,(execOp ρ o).run P W=.ok (.enter f args) W∧Calls P f args W fun e W'=>∃ v,e=.returned v∧Ext W W'∧φ v W'
theorem Qj9 (hr : zaa .any ops listed=[]) (h:Q .normal (Qau ds N L) w):WB P ops Q Rd fuel listed (Qau ds N L) w :=
  ⟨fun _=>by cases fuel with
    | zero=>exact ⟨hr,h⟩
    | succ n=>exact ⟨fun _=>h,by rw [hr]; simp⟩⟩
end Wk
end
section
namespace No
open Go Go.RowKit
open Rely Auto Own Sha
open Cha
open Ae hiding run_storeQ
open Ll hiding run_storeQ
open Ci Wk
open Field (Qav pubL agN Qat Qbc QaE Qbk)
theorem Qd5 (l : List Int) (h:(l.all fun x=>decide (0≤x)&&decide (x≤255))=true):Qaf l:=fun x hx=>by
  have:=List.all_eq_true.1 h x hx
  simpa using this
theorem Qru (a b c d e f h i j k l m:Array Value):cat [cat [a,b,c,d,e],f,cat [h,i],j,k,l,m]=cat [a,b,c,d,e,f,h,i,j,k,l,m]:=by
  simp only [cat,Array.append_assoc]
theorem QgI {P : Program} {ρ:Operand→Value} {o:Oper} {w:World} (t:TypeId) (parts:Array (Nat×Operand)) (z:Value) (places:Array (Nat×Nat)) (a b c d e f h i j k l m rest0:Array Value) (F:Value) (n1 n2 n3 n4:Nat)
    (ho:o.op=.build t parts) (hv:(parts.map fun (i,x)=>(i,ρ x)).toList=[(0,.agg (cat [a,b,c,d,e])),(1,F),(2,.agg (cat [h,i])),(3,.agg j)])
    (hp:okPl (fun i=>places[i]?) 0 [(0,n1,.agg (cat [a,b,c,d,e]),cat [a,b,c,d,e]),(1,n2,F,f),(2,n3,.agg (cat [h,i]),cat [h,i]),(3,n4,.agg j,j)])
    (hz0:z.cells=rest0) (ht:tot [(0,n1,zad (cat [a,b,c,d,e]),cat [a,b,c,d,e]),(1,n2,F,f),(2,n3,.agg (cat [h,i]),cat [h,i]),(3,n4,.agg j,j)]≤rest0.size)
    (hr:rest0.extract (tot [(0,n1,zad (cat [a,b,c,d,e]),cat [a,b,c,d,e]),(1,n2,F,f),(2,n3,.agg (cat [h,i]),cat [h,i]),(3,n4,.agg j,j)]) rest0.size=cat [k,l,m])
    (hz:(zeroValue t).run P w=.ok z w) (hu:P.underlying t=some (.struct (P.fieldsOf t))) (hm:((P.fieldsOf t).mapM fun f=>do pure (f.offset,←sizeOf f.type):Sem (Array (Nat×Nat))).run P w=.ok places w) :
    (execOp ρ o).run P w=.ok (.value (.agg (cat [a,b,c,d,e,f,h,i,j,k,l,m]))) w :=
  by
  obtain ⟨ps,eps⟩:∃ ps:List (Nat×Nat×Value×Array Value),ps=[(0,n1,zad (cat [a,b,c,d,e]),cat [a,b,c,d,e]),(1,n2,F,f),(2,n3,.agg (cat [h,i]),cat [h,i]),(3,n4,.agg j,j)]:=⟨_,rfl⟩
  have e1:ps.map (fun x=>(x.1,x.2.2.1))=[(0,.agg (cat [a,b,c,d,e])),(1,F),(2,.agg (cat [h,i])),(3,.agg j)]:=by rw [eps]; rfl
  have e2:([]:List (Array Value))++ps.map (fun x=>x.2.2.2)++[k,l,m]=[cat [a,b,c,d,e],f,cat [h,i],j,k,l,m]:=by rw [eps]; rfl
  rw [←eps] at hp ht hr
  have q:=Qfu (ρ:=ρ) (o:=o) (w:=w) t parts z places 0 [] rest0 ps [k,l,m] ho (hv.trans e1.symm) rfl hp (by rw [hz0]; simp [cat]) ht hr hz hu hm
  rw [e2,Qru] at q
  exact q
section
open Wk
variable {P : Program} {ops : Array Oper} {Q : Exit → Act → World → Prop} {o : Oper} {N : Nat} {L : Env} {w : World} {ds : List Deferred} {fuel : Nat} {listed : Array Bool} {k : Nat} {Rd : World → Prop}
theorem QpO (ho : ops[k]? = some o) (d:Nat) (hd:o.dst=some d) (hg:Qcd ops o N L=some true) (v:Value) (h:(execOp (Rely.look (envN N L)) o).run P w=.ok (.value v) w) (hw:Rd w)
    (kk:WB P ops Q Rd fuel (listed.setIfInBounds k true) (Qau ds N ((d,v)::L)) w):WO P ops Q Rd k fuel listed (Qau ds N L) w :=
  Qlj ho (fun v' W'=>v'=v∧W'=w) d hd hg ⟨v,w,h,rfl,rfl⟩ (fun _ _ h=>h.2▸hw) (fun v' W' h=>by obtain ⟨rfl,rfl⟩:=h; exact kk)
end
set_option maxRecDepth 100000 in
theorem Qks (sk pk peer pro nd n1 n2 n3:List Int) (hskl:sk.length=32) (hpkl:pk.length=32) (hpel:peer.length=32) (hpkb:Qaf pk) (hpeb:Qaf peer) (hpb:Qaf pro) (hpl:pro.length≤1000) (tc tq th tr:TypeId) (w:World) (hT:Tabs tc tq th tr w) (v:Value) (B:Nat) (hpr0:RdK .u8 B pro v w)
    (end_:nd=dig [78,111,105,115,101,95,75,75,95,50,53,53,49,57,95,67,104,97,67,104,97,80,111,108,121,95,83,72,65,50,53,54]) (en1:n1=dig (nd++pro)) (en2:n2=dig (n1++pk)) (en3:n3=dig (n2++peer)) :
    Calls Tryz.prog 9 #[.bool true,.agg (cat [ints .u8 sk,ints .u8 pk]),.agg (ints .u8 peer),v] w (QcL w (fun v W=>∃ g,v=.pointer (some ⟨g,0,none⟩)∧w.heap.size≤g∧W.heap[g]? = some (.cells (HR (zae 32 0) false 0 nd n3 true sk pk peer 0 (zae 32 0) (zae 32 0)) 76))):=by
  obtain ⟨a_p,c_p,rfl,-⟩:=id hpr0
  have hpr:=hpr0
  have hnb:Qaf [78,111,105,115,101,95,75,75,95,50,53,53,49,57,95,67,104,97,67,104,97,80,111,108,121,95,83,72,65,50,53,54]:=Qd5 _ (by decide)
  have hndl:nd.length=32:=by rw [end_]; exact QaV _
  have hndb:Qaf nd:=by rw [end_]; exact Qbo _
  have hn1l:n1.length=32:=by rw [en1]; exact QaV _
  have hn1b:Qaf n1:=by rw [en1]; exact Qbo _
  have hn2l:n2.length=32:=by rw [en2]; exact QaV _
  have hn2b:Qaf n2:=by rw [en2]; exact Qbo _
  have hn3l:n3.length=32:=by rw [en3]; exact QaV _
  have hn3b:Qaf n3:=by rw [en3]; exact Qbo _
  have hc4:=hT.c
  have hq4:=hT.q
  have hh4:=hT.h
  have hr4:=hT.r
  refine enter 46 [(0,.bool true),(1,.agg (cat [ints .u8 (sk),ints .u8 (pk)])),(2,.agg (ints .u8 (peer))),(3,.slice a_p pro.length c_p)] Tryz.func9 rfl rfl kj rfl <| sgC fun K5 hK5=>Qak (cat [ints .u8 (sk),ints .u8 (pk)]) 33 5 rfl kj kj fun g6 W1 l6 e1 r6_1=>?_
  have x1:=zaQ (zaM w) e1
  have b6:=qT (zaM w).size l6
  refine Qak (ints .u8 (peer)) 23 6 rfl kj kj fun g7 W2 l7 e2 r7_2=>?_
  have b7:=qT x1.size l7
  refine sg 1 kj <| sgN hK5 <| wp_seq_k fun K8 hK8=>QdC kj fun W3 e3=>?_
  have x3:=zaQ (zaQ x1 e2) e3
  refine QbF 3 (.bool true) 15 rfl rfl kj kj (fun _ _ _ h=>h) (fun W hR=>by kernel_rfl) ?_
  have r6_3:=(Qaa (Qaa r6_1 e2) e3)
  refine QbF 4 (.agg (cat [ints .u8 (sk),ints .u8 (pk)])) 16 rfl rfl kj kj (fun _ _ _ h=>h) (fun W hR=>(Qae 33 _ g6 33 _ _ (Qaa r6_3 hR) rfl kj kj (isz (n:=64) kj (by rw [Qab,Qab]; simp only [qS,cat,(izT hpkl),(izT hskl)]; rfl)))) ?_
  have r7_3:=(Qaa r7_2 e3)
  refine QbF 5 (.agg (ints .u8 (peer))) 17 rfl rfl kj kj (fun _ _ _ h=>h) (fun W hR=>(Qae 23 _ g7 23 _ _ (Qaa r7_3 hR) rfl kj kj (isz (n:=32) kj (izT hpel)))) <| QeK 0 kj ?_
  have r3_3:=(Qaa (Qaa (Qaa hc4 e1) e2) e3)
  have r4_3:=(Qaa (Qaa (Qaa hq4 e1) e2) e3)
  refine Qe3 rfl (fun v W'=>(BegL W3.heap.size ([78,111,105,115,101,95,75,75,95,50,53,53,49,57,95,67,104,97,67,104,97,80,111,108,121,95,83,72,65,50,53,54])) v W'∧Ext W3 W') 27 #[.string ⟨#[78,111,105,115,101,95,75,75,95,50,53,53,49,57,95,67,104,97,67,104,97,80,111,108,121,95,83,72,65,50,53,54]⟩] 12 rfl kj kj ((Qo1 _ ([78,111,105,115,101,95,75,75,95,50,53,53,49,57,95,67,104,97,67,104,97,80,111,108,121,95,83,72,65,50,53,54]) rfl hnb (by decide) tc tq _ r3_3 r4_3).mono (by rintro e w' ⟨v,rfl,e1,hv⟩; exact ⟨v,rfl,hv,e1⟩)) (fun _ _ h=>zaN (zaM W3) h.2) fun vv9 W4 hh9=>?_
  obtain ⟨hv9,e4⟩:=hh9
  have x4:=zaQ x3 e4
  obtain ⟨gs10,rfl,ls10,rs10⟩:=hv9
  have bs10:=qT x3.size ls10
  rw [←end_] at rs10
  refine QbF 1 (.pointer (some ⟨gs10,0,none⟩)) 13 rfl rfl kj kj (fun _ _ _ h=>h) (fun W hR=>by kernel_rfl) <| QeK 2 kj ?_
  have y3_4:=(zaN (zaM W3) e4)
  refine QpO rfl 14 rfl kj (.agg (cat [ints .u8 (zae 32 0),#[.bool false],#[.int .i64 0],ints .u8 (nd),ints .u8 (nd)])) ((Qae 71 _ gs10 71 _ _ rs10 rfl kj kj (isz (n:=98) kj (by rw [Qab,Qab,Qab,Qab,Qab]; simp only [qS,cat,(izT (qZ (n:=32))),(izT hndl)]; rfl)))) (y3_4) ?_
  refine QbF 6 (.agg (HR (zae 32 0) false 0 nd nd true sk pk peer 0 (zae 32 0) (zae 32 0))) 18 rfl rfl kj kj (fun _ _ _ h=>h) (fun W hR=>(QgI 76 _ (.agg (HR (zae 32 0) false 0 (zae 32 0) (zae 32 0) false (zae 32 0) (zae 32 0) (zae 32 0) 0 (zae 32 0) (zae 32 0))) #[(0,98),(98,1),(99,64),(163,32),(195,1),(196,32),(228,32)] (ints .u8 (zae 32 0)) (#[.bool false]) (#[.int .i64 0]) (ints .u8 (nd)) (ints .u8 (nd)) (#[.bool true]) (ints .u8 (sk)) (ints .u8 (pk)) (ints .u8 (peer)) (#[.int .i64 0]) (ints .u8 (zae 32 0)) (ints .u8 (zae 32 0)) (HR (zae 32 0) false 0 (zae 32 0) (zae 32 0) false (zae 32 0) (zae 32 0) (zae 32 0) 0 (zae 32 0) (zae 32 0)) (.bool true) 98 1 64 32 rfl kj ⟨kj,rfl,(by rw [Qab,Qab,Qab,Qab,Qab]; simp only [qS,cat,(izT (qZ (n:=32))),(izT hndl)]; rfl),kj,rfl,kj,kj,rfl,(by rw [Qab,Qab]; simp only [qS,cat,(izT hpkl),(izT hskl)]; rfl),kj,rfl,(izT hpel),trivial⟩ kj (zaf kj) kj kj kj kj)) ?_
  refine QeK 7 kj <| Qlj rfl (fun v W'=>(∃ g,v=.pointer (some ⟨g,0,none⟩)∧W4.heap.size≤g∧W'.heap[g]? = some (.cells (HR (zae 32 0) false 0 nd nd true sk pk peer 0 (zae 32 0) (zae 32 0)) 76))∧Ext W4 W') 19 rfl kj ⟨_,_,(by kernel_rfl:_=Result.ok (Next.value (.pointer (some ⟨W4.heap.size,0,none⟩))) (W4.alloc (.cells (HR (zae 32 0) false 0 nd nd true sk pk peer 0 (zae 32 0) (zae 32 0)) 76))),⟨_,rfl,qR _,heap_alloc_new _ _⟩,QaK _ _⟩ (fun _ _ h=>zaN y3_4 h.2) fun vv11 W5 hh11=>?_
  obtain ⟨⟨g12,rfl,l12,r12_5⟩,e5⟩:=hh11
  have x5:=zaQ x4 e5
  have b12:=qT x4.size l12
  refine QbF 8 (.pointer (some ⟨g12,0,none⟩)) 9 rfl rfl kj kj (fun _ _ _ h=>h) (fun W hR=>by kernel_rfl) <| Qj9 kj <| hK8 _ _ <| wp_seq_k fun K13 hK13=>?_
  have r7_5:=(Qaa (Qaa r7_3 e4) e5)
  refine QbB (fun W=>W.heap[g7]? = some (.cells (ints .u8 (peer)) 23)) [⟨none,[(5,none)]⟩,⟨none,[(20,some 0)]⟩,⟨none,[(6,none)]⟩,⟨none,[]⟩,⟨none,[]⟩,⟨none,[(10,some 3),(21,some 1)]⟩,⟨none,[(11,some 4),(22,some 2)]⟩] [3,4] [2] kj kj kj (fun W hR=>Qaa r7_5 hR) fun F hF=>QaY (.pointer (some ⟨g6,32,none⟩)) kj kj rfl (fun _=>kj) <| Qbz (.agg (ints .u8 (pk))) kj kj kj rfl (fun W hR=>(Qan 23 _ g6 32 33 _ _ _ (Qaa (Qaa (Qaa (Qaa r6_3 e4) e5) (Qah _)) hR) rfl kj (Qaq [ints .u8 (sk)] [ints .u8 (pk)] [] 32 (izT hskl)) kj (isz (n:=32) kj (izT hpkl)))) <| QdH (.agg (ints .u8 (peer))) kj kj kj rfl (fun W hW=>(Qae 23 _ g7 23 _ _ hW rfl kj kj (isz (n:=32) kj (izT hpel)))) <| QmV (ints .u8 (zae 32 0)) 23 kj kj (qR _) kj rfl (fun _=>kj) <| QmV (ints .u8 (zae 32 0)) 23 kj kj (qR _) kj rfl (fun _=>kj) <| Qb0 rfl <| Qb0 rfl <| QeY (hF _ kj fun W6 e6=>?_)
  simp only [zag,zah,fins,up]
  intro g14 l14 r14_6 n14 g15 l15 r15_6 n15
  have n15_14:g15≠g14:=n15 _ (by simp)
  clear hF
  have r7_6:=(Qaa r7_5 e6)
  refine Qbv _ g14 _ (ints .u8 (pk)) 23 r14_6 rfl (Qag 23 _ _ g14 23 _ _ r14_6 rfl kj kj (isz (n:=32) kj (izT hpkl)) (eqsz (n:=32) (izT (qZ (n:=32))) (izT hpkl)) (ints_one _ _)) (fun W hp=>zaO hp r7_6 (Qad r7_5 l14)) fun W7 p7 r14_7=>?_
  have r15_7:=(zaO p7 r15_6 n15_14)
  refine Qbv _ g15 _ (ints .u8 (peer)) 23 r15_7 rfl (Qag 23 _ _ g15 23 _ _ r15_7 rfl kj kj (isz (n:=32) kj (izT hpel)) (eqsz (n:=32) (izT (qZ (n:=32))) (izT hpel)) (ints_one _ _)) (fun W hp=>zaO hp (zaO p7 r7_6 (Qad r7_5 l14)) (Qad r7_5 l15)) fun W8 p8 r15_8=>?_
  have x8:=zaP p8 (zaP p7 (zaQ x5 e6) (qT x5.size l14)) (qT x5.size l15)
  refine Qd8 <| hK13 _ _ <| wp_seq_k fun K16 hK16=>sgB kj <| cond_false kj <| wp_skip <| hK16 _ _ <| sgC fun K18 hK18=>sg 4 kj <| QbM (#[.slice a_p pro.length c_p]) 24 1 31 rfl kj kj fun g19 W9 l19 e9 r19_9=>?_
  have x9:=zaQ x8 e9
  have b19:=qT x8.size l19
  have hps20:∀ p∈([(.slice a_p pro.length c_p,pro)]:List (Value×List Int)),RdK .u8 W9.heap.size p.2 p.1 W9∧Qaf p.2:=by
    intro p hp
    simp only [zai,zaj,or_false] at hp
    rcases hp with rfl
    · exact ⟨zaZ (RdK.ext hpr x9),hpb⟩
  have r3_4:=(Qaa r3_3 e4)
  have r3_5:=(Qaa r3_4 e5)
  have r3_9:=(Qaa (zaO p8 (rpn p7 r3_5 e6 l14) (Qad r3_5 l15)) e9)
  have r4_4:=(Qaa r4_3 e4)
  have r4_5:=(Qaa r4_4 e5)
  have r4_9:=(Qaa (zaO p8 (rpn p7 r4_5 e6 l14) (Qad r4_5 l15)) e9)
  have hmx20:=QcZ g12 (zae 32 0) (nd) (nd) false 0 g19 1 _ ([(.slice a_p pro.length c_p,pro)]:List (Value×List Int)) rfl (by decide) tc tq W9 (qZ (n:=32)) hndl hndl hndb r3_9 r4_9 (Qaa (zaO p8 (rpn p7 r12_5 e6 l14) (Qad r12_5 l15)) e9) r19_9 hps20 (by simp only [zak,zal,zam,zan,zao,zap,hpkl,hpel]; omega)
  rw [show ((zaq Prod.snd ([(.slice a_p pro.length c_p,pro)]:List (Value×List Int))).flatten)=pro by simp only [zak,zal,zam,zan,zao]] at hmx20
  refine Qaw (fun v W'=>v=.tuple #[]∧ExtB g12 W9 W'∧W'.heap[g12]? = some (.cells (HR (zae 32 0) false 0 nd (dig (nd++pro)) true sk pk peer 0 (zae 32 0) (zae 32 0)) 76)) 28 #[.pointer (some ⟨g12,0,none⟩),.slice (some ⟨g19,0,none⟩) 1 1] 32 rfl kj kj (hmx20.mono fun e w' h=>⟨_,h.1,rfl,h.2⟩) fun v W10 h20=>?_
  obtain ⟨rfl,q10,r12_10⟩:=h20
  have x10:=zaU x9 q10 b12
  rw [←en1] at r12_10
  refine sgN hK18 <| wp_seq_k fun K21 hK21=>Qba 5 [⟨none,[(9,none)]⟩,⟨none,[(33,some 0)]⟩,⟨none,[(34,some 1)]⟩,⟨none,[(10,none)]⟩,⟨none,[(36,some 3)]⟩] kj kj fun F hF=>Qa6 (Qar _) (.pointer (some ⟨g12,0,none⟩)) kj kj (fun _=>kj) <| Qa6 (Qar _) (.pointer (some ⟨g12,0,none⟩)) kj kj (fun _=>kj) <| Qa6 (Qar _) (.pointer (some ⟨g12,0,none⟩)) kj kj (fun _=>kj) <| Qa6 (Qar _) (.slice (some ⟨g14,0,none⟩) 32 32) kj kj (fun _=>kj) <| QeL (Qar _) (#[.slice (some ⟨g14,0,none⟩) 32 32]) 24 1 (zaW _ _ _ _) kj kj (fun _=>kj) <| Qdr (hF _ fun W11 e11=>?_)
  simp only [zag,zah,zar,zas,zat,zau,finE,up]
  intro vv22 hv22
  clear hF
  obtain ⟨g22,rfl,l22,r22_11⟩:=hv22
  have b22:=qT x10.size l22
  have r14_11:=(Qaa (zaT q10 (Qaa (zaO p8 r14_7 (Ne.symm n15_14)) e9) (Qap r12_5 l14)) e11)
  have hps23:∀ p∈([(.slice (some ⟨g14,0,none⟩) 32 32,pk)]:List (Value×List Int)),RdK .u8 W11.heap.size p.2 p.1 W11∧Qaf p.2:=by
    intro p hp
    simp only [zai,zaj,or_false] at hp
    rcases hp with rfl
    · exact ⟨zaZ (Qb8 (xs:=pk) (n:=32) hpkl r14_11 (Qa7 r14_11) (show 32≤maxLen from by decide)),hpkb⟩
  have r3_11:=(Qaa (zaT q10 r3_9 (Qad r3_4 l12)) e11)
  have r4_11:=(Qaa (zaT q10 r4_9 (Qad r4_4 l12)) e11)
  have hmx23:=QcZ g12 (zae 32 0) (nd) (n1) false 0 g22 1 _ ([(.slice (some ⟨g14,0,none⟩) 32 32,pk)]:List (Value×List Int)) rfl (by decide) tc tq W11 (qZ (n:=32)) hndl hn1l hn1b r3_11 r4_11 (Qaa r12_10 e11) r22_11 hps23 (by simp only [zak,zal,zam,zan,zao,zap,hpkl,hpel]; omega)
  rw [show ((zaq Prod.snd ([(.slice (some ⟨g14,0,none⟩) 32 32,pk)]:List (Value×List Int))).flatten)=pk by simp only [zak,zal,zam,zan,zao]] at hmx23
  refine Qaw (fun v W'=>v=.tuple #[]∧ExtB g12 W11 W'∧W'.heap[g12]? = some (.cells (HR (zae 32 0) false 0 nd (dig (n1++pk)) true sk pk peer 0 (zae 32 0) (zae 32 0)) 76)) 28 #[.pointer (some ⟨g12,0,none⟩),.slice (some ⟨g22,0,none⟩) 1 1] 38 rfl kj kj (hmx23.mono fun e w' h=>⟨_,h.1,rfl,h.2⟩) fun v W12 h23=>?_
  obtain ⟨rfl,q12,r12_12⟩:=h23
  have x12:=zaU (zaQ x10 e11) q12 b12
  rw [←en2] at r12_12
  refine sgN hK21 <| wp_seq_k fun K24 hK24=>Qba 5 [⟨none,[(9,none)]⟩,⟨none,[(39,some 0)]⟩,⟨none,[(40,some 1)]⟩,⟨none,[(11,none)]⟩,⟨none,[(42,some 3)]⟩] kj kj fun F hF=>Qa6 (Qar _) (.pointer (some ⟨g12,0,none⟩)) kj kj (fun _=>kj) <| Qa6 (Qar _) (.pointer (some ⟨g12,0,none⟩)) kj kj (fun _=>kj) <| Qa6 (Qar _) (.pointer (some ⟨g12,0,none⟩)) kj kj (fun _=>kj) <| Qa6 (Qar _) (.slice (some ⟨g15,0,none⟩) 32 32) kj kj (fun _=>kj) <| QeL (Qar _) (#[.slice (some ⟨g15,0,none⟩) 32 32]) 24 1 (zaW _ _ _ _) kj kj (fun _=>kj) <| Qdr (hF _ fun W13 e13=>?_)
  simp only [zag,zah,zar,zas,zat,zau,finE,up]
  intro vv25 hv25
  clear hF
  obtain ⟨g25,rfl,l25,r25_13⟩:=hv25
  have b25:=qT x12.size l25
  have r15_13:=(Qaa (zaT q12 (Qaa (zaT q10 (Qaa r15_8 e9) (Qap r12_5 l15)) e11) (Qap r12_5 l15)) e13)
  have hps26:∀ p∈([(.slice (some ⟨g15,0,none⟩) 32 32,peer)]:List (Value×List Int)),RdK .u8 W13.heap.size p.2 p.1 W13∧Qaf p.2:=by
    intro p hp
    simp only [zai,zaj,or_false] at hp
    rcases hp with rfl
    · exact ⟨zaZ (Qb8 (xs:=peer) (n:=32) hpel r15_13 (Qa7 r15_13) (show 32≤maxLen from by decide)),hpeb⟩
  have hmx26:=QcZ g12 (zae 32 0) (nd) (n2) false 0 g25 1 _ ([(.slice (some ⟨g15,0,none⟩) 32 32,peer)]:List (Value×List Int)) rfl (by decide) tc tq W13 (qZ (n:=32)) hndl hn2l hn2b (Qaa (zaT q12 r3_11 (Qad r3_4 l12)) e13) (Qaa (zaT q12 r4_11 (Qad r4_4 l12)) e13) (Qaa r12_12 e13) r25_13 hps26 (by simp only [zak,zal,zam,zan,zao,zap,hpkl,hpel]; omega)
  rw [show ((zaq Prod.snd ([(.slice (some ⟨g15,0,none⟩) 32 32,peer)]:List (Value×List Int))).flatten)=peer by simp only [zak,zal,zam,zan,zao]] at hmx26
  refine Qaw (fun v W'=>v=.tuple #[]∧ExtB g12 W13 W'∧W'.heap[g12]? = some (.cells (HR (zae 32 0) false 0 nd (dig (n2++peer)) true sk pk peer 0 (zae 32 0) (zae 32 0)) 76)) 28 #[.pointer (some ⟨g12,0,none⟩),.slice (some ⟨g25,0,none⟩) 1 1] 44 rfl kj kj (hmx26.mono fun e w' h=>⟨_,h.1,rfl,h.2⟩) fun v W14 h26=>?_
  obtain ⟨rfl,q14,r12_14⟩:=h26
  rw [←en3] at r12_14
  refine sgN hK24 <| sgB kj <| wp_ret ?_
  exact (show bodyPost _ _ _ .ret _ _ from ret1 (.pointer (some ⟨g12,0,none⟩)) rfl (Qa4 kj) ⟨_,rfl,(zaU (zaQ x12 e13) q14 b12),g12,rfl,b12,r12_14⟩)
set_option maxRecDepth 100000 in
theorem QiM (sk pk peer pro nd n1 n2 n3:List Int) (hskl:sk.length=32) (hpkl:pk.length=32) (hpel:peer.length=32) (hpkb:Qaf pk) (hpeb:Qaf peer) (hpb:Qaf pro) (hpl:pro.length≤1000) (tc tq th tr:TypeId) (w:World) (hT:Tabs tc tq th tr w) (v:Value) (B:Nat) (hpr0:RdK .u8 B pro v w)
    (end_:nd=dig [78,111,105,115,101,95,75,75,95,50,53,53,49,57,95,67,104,97,67,104,97,80,111,108,121,95,83,72,65,50,53,54]) (en1:n1=dig (nd++pro)) (en2:n2=dig (n1++peer)) (en3:n3=dig (n2++pk)) :
    Calls Tryz.prog 9 #[.bool false,.agg (cat [ints .u8 sk,ints .u8 pk]),.agg (ints .u8 peer),v] w (QcL w (fun v W=>∃ g,v=.pointer (some ⟨g,0,none⟩)∧w.heap.size≤g∧W.heap[g]? = some (.cells (HR (zae 32 0) false 0 nd n3 false sk pk peer 0 (zae 32 0) (zae 32 0)) 76))):=by
  obtain ⟨a_p,c_p,rfl,-⟩:=id hpr0
  have hpr:=hpr0
  have hnb:Qaf [78,111,105,115,101,95,75,75,95,50,53,53,49,57,95,67,104,97,67,104,97,80,111,108,121,95,83,72,65,50,53,54]:=Qd5 _ (by decide)
  have hndl:nd.length=32:=by rw [end_]; exact QaV _
  have hndb:Qaf nd:=by rw [end_]; exact Qbo _
  have hn1l:n1.length=32:=by rw [en1]; exact QaV _
  have hn1b:Qaf n1:=by rw [en1]; exact Qbo _
  have hn2l:n2.length=32:=by rw [en2]; exact QaV _
  have hn2b:Qaf n2:=by rw [en2]; exact Qbo _
  have hn3l:n3.length=32:=by rw [en3]; exact QaV _
  have hn3b:Qaf n3:=by rw [en3]; exact Qbo _
  have hc4:=hT.c
  have hq4:=hT.q
  have hh4:=hT.h
  have hr4:=hT.r
  refine enter 46 [(0,.bool false),(1,.agg (cat [ints .u8 (sk),ints .u8 (pk)])),(2,.agg (ints .u8 (peer))),(3,.slice a_p pro.length c_p)] Tryz.func9 rfl rfl kj rfl <| sgC fun K5 hK5=>Qak (cat [ints .u8 (sk),ints .u8 (pk)]) 33 5 rfl kj kj fun g6 W1 l6 e1 r6_1=>?_
  have x1:=zaQ (zaM w) e1
  have b6:=qT (zaM w).size l6
  refine Qak (ints .u8 (peer)) 23 6 rfl kj kj fun g7 W2 l7 e2 r7_2=>?_
  have b7:=qT x1.size l7
  refine sg 1 kj <| sgN hK5 <| wp_seq_k fun K8 hK8=>QdC kj fun W3 e3=>?_
  have x3:=zaQ (zaQ x1 e2) e3
  refine QbF 3 (.bool false) 15 rfl rfl kj kj (fun _ _ _ h=>h) (fun W hR=>by kernel_rfl) ?_
  have r6_3:=(Qaa (Qaa r6_1 e2) e3)
  refine QbF 4 (.agg (cat [ints .u8 (sk),ints .u8 (pk)])) 16 rfl rfl kj kj (fun _ _ _ h=>h) (fun W hR=>(Qae 33 _ g6 33 _ _ (Qaa r6_3 hR) rfl kj kj (isz (n:=64) kj (by rw [Qab,Qab]; simp only [qS,cat,(izT hpkl),(izT hskl)]; rfl)))) ?_
  have r7_3:=(Qaa r7_2 e3)
  refine QbF 5 (.agg (ints .u8 (peer))) 17 rfl rfl kj kj (fun _ _ _ h=>h) (fun W hR=>(Qae 23 _ g7 23 _ _ (Qaa r7_3 hR) rfl kj kj (isz (n:=32) kj (izT hpel)))) <| QeK 0 kj ?_
  have r3_3:=(Qaa (Qaa (Qaa hc4 e1) e2) e3)
  have r4_3:=(Qaa (Qaa (Qaa hq4 e1) e2) e3)
  refine Qe3 rfl (fun v W'=>(BegL W3.heap.size ([78,111,105,115,101,95,75,75,95,50,53,53,49,57,95,67,104,97,67,104,97,80,111,108,121,95,83,72,65,50,53,54])) v W'∧Ext W3 W') 27 #[.string ⟨#[78,111,105,115,101,95,75,75,95,50,53,53,49,57,95,67,104,97,67,104,97,80,111,108,121,95,83,72,65,50,53,54]⟩] 12 rfl kj kj ((Qo1 _ ([78,111,105,115,101,95,75,75,95,50,53,53,49,57,95,67,104,97,67,104,97,80,111,108,121,95,83,72,65,50,53,54]) rfl hnb (by decide) tc tq _ r3_3 r4_3).mono (by rintro e w' ⟨v,rfl,e1,hv⟩; exact ⟨v,rfl,hv,e1⟩)) (fun _ _ h=>zaN (zaM W3) h.2) fun vv9 W4 hh9=>?_
  obtain ⟨hv9,e4⟩:=hh9
  have x4:=zaQ x3 e4
  obtain ⟨gs10,rfl,ls10,rs10⟩:=hv9
  have bs10:=qT x3.size ls10
  rw [←end_] at rs10
  refine QbF 1 (.pointer (some ⟨gs10,0,none⟩)) 13 rfl rfl kj kj (fun _ _ _ h=>h) (fun W hR=>by kernel_rfl) <| QeK 2 kj ?_
  have y3_4:=(zaN (zaM W3) e4)
  refine QpO rfl 14 rfl kj (.agg (cat [ints .u8 (zae 32 0),#[.bool false],#[.int .i64 0],ints .u8 (nd),ints .u8 (nd)])) ((Qae 71 _ gs10 71 _ _ rs10 rfl kj kj (isz (n:=98) kj (by rw [Qab,Qab,Qab,Qab,Qab]; simp only [qS,cat,(izT (qZ (n:=32))),(izT hndl)]; rfl)))) (y3_4) ?_
  refine QbF 6 (.agg (HR (zae 32 0) false 0 nd nd false sk pk peer 0 (zae 32 0) (zae 32 0))) 18 rfl rfl kj kj (fun _ _ _ h=>h) (fun W hR=>(QgI 76 _ (.agg (HR (zae 32 0) false 0 (zae 32 0) (zae 32 0) false (zae 32 0) (zae 32 0) (zae 32 0) 0 (zae 32 0) (zae 32 0))) #[(0,98),(98,1),(99,64),(163,32),(195,1),(196,32),(228,32)] (ints .u8 (zae 32 0)) (#[.bool false]) (#[.int .i64 0]) (ints .u8 (nd)) (ints .u8 (nd)) (#[.bool false]) (ints .u8 (sk)) (ints .u8 (pk)) (ints .u8 (peer)) (#[.int .i64 0]) (ints .u8 (zae 32 0)) (ints .u8 (zae 32 0)) (HR (zae 32 0) false 0 (zae 32 0) (zae 32 0) false (zae 32 0) (zae 32 0) (zae 32 0) 0 (zae 32 0) (zae 32 0)) (.bool false) 98 1 64 32 rfl kj ⟨kj,rfl,(by rw [Qab,Qab,Qab,Qab,Qab]; simp only [qS,cat,(izT (qZ (n:=32))),(izT hndl)]; rfl),kj,rfl,kj,kj,rfl,(by rw [Qab,Qab]; simp only [qS,cat,(izT hpkl),(izT hskl)]; rfl),kj,rfl,(izT hpel),trivial⟩ kj (zaf kj) kj kj kj kj)) ?_
  refine QeK 7 kj <| Qlj rfl (fun v W'=>(∃ g,v=.pointer (some ⟨g,0,none⟩)∧W4.heap.size≤g∧W'.heap[g]? = some (.cells (HR (zae 32 0) false 0 nd nd false sk pk peer 0 (zae 32 0) (zae 32 0)) 76))∧Ext W4 W') 19 rfl kj ⟨_,_,(by kernel_rfl:_=Result.ok (Next.value (.pointer (some ⟨W4.heap.size,0,none⟩))) (W4.alloc (.cells (HR (zae 32 0) false 0 nd nd false sk pk peer 0 (zae 32 0) (zae 32 0)) 76))),⟨_,rfl,qR _,heap_alloc_new _ _⟩,QaK _ _⟩ (fun _ _ h=>zaN y3_4 h.2) fun vv11 W5 hh11=>?_
  obtain ⟨⟨g12,rfl,l12,r12_5⟩,e5⟩:=hh11
  have x5:=zaQ x4 e5
  have b12:=qT x4.size l12
  refine QbF 8 (.pointer (some ⟨g12,0,none⟩)) 9 rfl rfl kj kj (fun _ _ _ h=>h) (fun W hR=>by kernel_rfl) <| Qj9 kj <| hK8 _ _ <| wp_seq_k fun K13 hK13=>?_
  have r7_5:=(Qaa (Qaa r7_3 e4) e5)
  refine QbB (fun W=>W.heap[g7]? = some (.cells (ints .u8 (peer)) 23)) [⟨none,[(5,none)]⟩,⟨none,[(20,some 0)]⟩,⟨none,[(6,none)]⟩,⟨none,[]⟩,⟨none,[]⟩,⟨none,[(10,some 3),(21,some 1)]⟩,⟨none,[(11,some 4),(22,some 2)]⟩] [3,4] [2] kj kj kj (fun W hR=>Qaa r7_5 hR) fun F hF=>QaY (.pointer (some ⟨g6,32,none⟩)) kj kj rfl (fun _=>kj) <| Qbz (.agg (ints .u8 (pk))) kj kj kj rfl (fun W hR=>(Qan 23 _ g6 32 33 _ _ _ (Qaa (Qaa (Qaa (Qaa r6_3 e4) e5) (Qah _)) hR) rfl kj (Qaq [ints .u8 (sk)] [ints .u8 (pk)] [] 32 (izT hskl)) kj (isz (n:=32) kj (izT hpkl)))) <| QdH (.agg (ints .u8 (peer))) kj kj kj rfl (fun W hW=>(Qae 23 _ g7 23 _ _ hW rfl kj kj (isz (n:=32) kj (izT hpel)))) <| QmV (ints .u8 (zae 32 0)) 23 kj kj (qR _) kj rfl (fun _=>kj) <| QmV (ints .u8 (zae 32 0)) 23 kj kj (qR _) kj rfl (fun _=>kj) <| Qb0 rfl <| Qb0 rfl <| QeY (hF _ kj fun W6 e6=>?_)
  simp only [zag,zah,fins,up]
  intro g14 l14 r14_6 n14 g15 l15 r15_6 n15
  have b14:=qT x5.size l14
  have b15:=qT x5.size l15
  have n15_14:g15≠g14:=n15 _ (by simp)
  clear hF
  have r7_6:=(Qaa r7_5 e6)
  refine Qbv _ g14 _ (ints .u8 (pk)) 23 r14_6 rfl (Qag 23 _ _ g14 23 _ _ r14_6 rfl kj kj (isz (n:=32) kj (izT hpkl)) (eqsz (n:=32) (izT (qZ (n:=32))) (izT hpkl)) (ints_one _ _)) (fun W hp=>zaO hp r7_6 (Qad r7_5 l14)) fun W7 p7 r14_7=>?_
  have r15_7:=(zaO p7 r15_6 n15_14)
  refine Qbv _ g15 _ (ints .u8 (peer)) 23 r15_7 rfl (Qag 23 _ _ g15 23 _ _ r15_7 rfl kj kj (isz (n:=32) kj (izT hpel)) (eqsz (n:=32) (izT (qZ (n:=32))) (izT hpel)) (ints_one _ _)) (fun W hp=>zaO hp (zaO p7 r7_6 (Qad r7_5 l14)) (Qad r7_5 l15)) fun W8 p8 r15_8=>Qd8 <| hK13 _ _ <| wp_seq_k fun K16 hK16=>sgB kj <| cond_true kj <| Qao <| Qac (.agg (ints .u8 (peer))) 25 rfl kj (Qae 23 _ g15 23 _ _ r15_8 rfl kj kj (isz (n:=32) kj (izT hpel))) ?_
  have r14_8:=(zaO p8 r14_7 (Ne.symm n15_14))
  refine Qac (.agg (ints .u8 (pk))) 26 rfl kj (Qae 23 _ g14 23 _ _ r14_8 rfl kj kj (isz (n:=32) kj (izT hpkl))) <| Qai g14 _ (ints .u8 (peer)) 23 r14_8 rfl kj (Qag 23 _ _ g14 23 _ _ r14_8 rfl kj kj (isz (n:=32) kj (izT hpel)) (eqsz (n:=32) (izT hpkl) (izT hpel)) (ints_one _ _)) fun W9 p9 r14_9=>?_
  have r15_9:=(zaO p9 r15_8 n15_14)
  refine Qai g15 _ (ints .u8 (pk)) 23 r15_9 rfl kj (Qag 23 _ _ g15 23 _ _ r15_9 rfl kj kj (isz (n:=32) kj (izT hpkl)) (eqsz (n:=32) (izT hpel) (izT hpkl)) (ints_one _ _)) fun W10 p10 r15_10=>?_
  have x10:=zaP p10 (zaP p9 (zaP p8 (zaP p7 (zaQ x5 e6) b14) b15) b14) b15
  refine Qaz <| hK16 _ _ <| sgC fun K18 hK18=>sg 4 kj <| QbM (#[.slice a_p pro.length c_p]) 24 1 31 rfl kj kj fun g19 W11 l19 e11 r19_11=>?_
  have x11:=zaQ x10 e11
  have b19:=qT x10.size l19
  have hps20:∀ p∈([(.slice a_p pro.length c_p,pro)]:List (Value×List Int)),RdK .u8 W11.heap.size p.2 p.1 W11∧Qaf p.2:=by
    intro p hp
    simp only [zai,zaj,or_false] at hp
    rcases hp with rfl
    · exact ⟨zaZ (RdK.ext hpr x11),hpb⟩
  have r3_4:=(Qaa r3_3 e4)
  have r3_5:=(Qaa r3_4 e5)
  have r3_11:=(Qaa (zaO p10 (zaO p9 (zaO p8 (rpn p7 r3_5 e6 l14) (Qad r3_5 l15)) (Qad r3_5 l14)) (Qad r3_5 l15)) e11)
  have r4_4:=(Qaa r4_3 e4)
  have r4_5:=(Qaa r4_4 e5)
  have r4_11:=(Qaa (zaO p10 (zaO p9 (zaO p8 (rpn p7 r4_5 e6 l14) (Qad r4_5 l15)) (Qad r4_5 l14)) (Qad r4_5 l15)) e11)
  have hmx20:=QcZ g12 (zae 32 0) (nd) (nd) false 0 g19 1 _ ([(.slice a_p pro.length c_p,pro)]:List (Value×List Int)) rfl (by decide) tc tq W11 (qZ (n:=32)) hndl hndl hndb r3_11 r4_11 (Qaa (zaO p10 (zaO p9 (zaO p8 (rpn p7 r12_5 e6 l14) (Qad r12_5 l15)) (Qad r12_5 l14)) (Qad r12_5 l15)) e11) r19_11 hps20 (by simp only [zak,zal,zam,zan,zao,zap,hpkl,hpel]; omega)
  rw [show ((zaq Prod.snd ([(.slice a_p pro.length c_p,pro)]:List (Value×List Int))).flatten)=pro by simp only [zak,zal,zam,zan,zao]] at hmx20
  refine Qaw (fun v W'=>v=.tuple #[]∧ExtB g12 W11 W'∧W'.heap[g12]? = some (.cells (HR (zae 32 0) false 0 nd (dig (nd++pro)) false sk pk peer 0 (zae 32 0) (zae 32 0)) 76)) 28 #[.pointer (some ⟨g12,0,none⟩),.slice (some ⟨g19,0,none⟩) 1 1] 32 rfl kj kj (hmx20.mono fun e w' h=>⟨_,h.1,rfl,h.2⟩) fun v W12 h20=>?_
  obtain ⟨rfl,q12,r12_12⟩:=h20
  have x12:=zaU x11 q12 b12
  rw [←en1] at r12_12
  refine sgN hK18 <| wp_seq_k fun K21 hK21=>Qba 5 [⟨none,[(9,none)]⟩,⟨none,[(33,some 0)]⟩,⟨none,[(34,some 1)]⟩,⟨none,[(10,none)]⟩,⟨none,[(36,some 3)]⟩] kj kj fun F hF=>Qa6 (Qar _) (.pointer (some ⟨g12,0,none⟩)) kj kj (fun _=>kj) <| Qa6 (Qar _) (.pointer (some ⟨g12,0,none⟩)) kj kj (fun _=>kj) <| Qa6 (Qar _) (.pointer (some ⟨g12,0,none⟩)) kj kj (fun _=>kj) <| Qa6 (Qar _) (.slice (some ⟨g14,0,none⟩) 32 32) kj kj (fun _=>kj) <| QeL (Qar _) (#[.slice (some ⟨g14,0,none⟩) 32 32]) 24 1 (zaW _ _ _ _) kj kj (fun _=>kj) <| Qdr (hF _ fun W13 e13=>?_)
  simp only [zag,zah,zar,zas,zat,zau,finE,up]
  intro vv22 hv22
  clear hF
  obtain ⟨g22,rfl,l22,r22_13⟩:=hv22
  have b22:=qT x12.size l22
  have r14_13:=(Qaa (zaT q12 (Qaa (zaO p10 r14_9 (Ne.symm n15_14)) e11) (Qap r12_5 l14)) e13)
  have hps23:∀ p∈([(.slice (some ⟨g14,0,none⟩) 32 32,peer)]:List (Value×List Int)),RdK .u8 W13.heap.size p.2 p.1 W13∧Qaf p.2:=by
    intro p hp
    simp only [zai,zaj,or_false] at hp
    rcases hp with rfl
    · exact ⟨zaZ (Qb8 (xs:=peer) (n:=32) hpel r14_13 (Qa7 r14_13) (show 32≤maxLen from by decide)),hpeb⟩
  have r3_13:=(Qaa (zaT q12 r3_11 (Qad r3_4 l12)) e13)
  have r4_13:=(Qaa (zaT q12 r4_11 (Qad r4_4 l12)) e13)
  have hmx23:=QcZ g12 (zae 32 0) (nd) (n1) false 0 g22 1 _ ([(.slice (some ⟨g14,0,none⟩) 32 32,peer)]:List (Value×List Int)) rfl (by decide) tc tq W13 (qZ (n:=32)) hndl hn1l hn1b r3_13 r4_13 (Qaa r12_12 e13) r22_13 hps23 (by simp only [zak,zal,zam,zan,zao,zap,hpkl,hpel]; omega)
  rw [show ((zaq Prod.snd ([(.slice (some ⟨g14,0,none⟩) 32 32,peer)]:List (Value×List Int))).flatten)=peer by simp only [zak,zal,zam,zan,zao]] at hmx23
  refine Qaw (fun v W'=>v=.tuple #[]∧ExtB g12 W13 W'∧W'.heap[g12]? = some (.cells (HR (zae 32 0) false 0 nd (dig (n1++peer)) false sk pk peer 0 (zae 32 0) (zae 32 0)) 76)) 28 #[.pointer (some ⟨g12,0,none⟩),.slice (some ⟨g22,0,none⟩) 1 1] 38 rfl kj kj (hmx23.mono fun e w' h=>⟨_,h.1,rfl,h.2⟩) fun v W14 h23=>?_
  obtain ⟨rfl,q14,r12_14⟩:=h23
  have x14:=zaU (zaQ x12 e13) q14 b12
  rw [←en2] at r12_14
  refine sgN hK21 <| wp_seq_k fun K24 hK24=>Qba 5 [⟨none,[(9,none)]⟩,⟨none,[(39,some 0)]⟩,⟨none,[(40,some 1)]⟩,⟨none,[(11,none)]⟩,⟨none,[(42,some 3)]⟩] kj kj fun F hF=>Qa6 (Qar _) (.pointer (some ⟨g12,0,none⟩)) kj kj (fun _=>kj) <| Qa6 (Qar _) (.pointer (some ⟨g12,0,none⟩)) kj kj (fun _=>kj) <| Qa6 (Qar _) (.pointer (some ⟨g12,0,none⟩)) kj kj (fun _=>kj) <| Qa6 (Qar _) (.slice (some ⟨g15,0,none⟩) 32 32) kj kj (fun _=>kj) <| QeL (Qar _) (#[.slice (some ⟨g15,0,none⟩) 32 32]) 24 1 (zaW _ _ _ _) kj kj (fun _=>kj) <| Qdr (hF _ fun W15 e15=>?_)
  simp only [zag,zah,zar,zas,zat,zau,finE,up]
  intro vv25 hv25
  clear hF
  obtain ⟨g25,rfl,l25,r25_15⟩:=hv25
  have b25:=qT x14.size l25
  have r15_15:=(Qaa (zaT q14 (Qaa (zaT q12 (Qaa r15_10 e11) (Qap r12_5 l15)) e13) (Qap r12_5 l15)) e15)
  have hps26:∀ p∈([(.slice (some ⟨g15,0,none⟩) 32 32,pk)]:List (Value×List Int)),RdK .u8 W15.heap.size p.2 p.1 W15∧Qaf p.2:=by
    intro p hp
    simp only [zai,zaj,or_false] at hp
    rcases hp with rfl
    · exact ⟨zaZ (Qb8 (xs:=pk) (n:=32) hpkl r15_15 (Qa7 r15_15) (show 32≤maxLen from by decide)),hpkb⟩
  have hmx26:=QcZ g12 (zae 32 0) (nd) (n2) false 0 g25 1 _ ([(.slice (some ⟨g15,0,none⟩) 32 32,pk)]:List (Value×List Int)) rfl (by decide) tc tq W15 (qZ (n:=32)) hndl hn2l hn2b (Qaa (zaT q14 r3_13 (Qad r3_4 l12)) e15) (Qaa (zaT q14 r4_13 (Qad r4_4 l12)) e15) (Qaa r12_14 e15) r25_15 hps26 (by simp only [zak,zal,zam,zan,zao,zap,hpkl,hpel]; omega)
  rw [show ((zaq Prod.snd ([(.slice (some ⟨g15,0,none⟩) 32 32,pk)]:List (Value×List Int))).flatten)=pk by simp only [zak,zal,zam,zan,zao]] at hmx26
  refine Qaw (fun v W'=>v=.tuple #[]∧ExtB g12 W15 W'∧W'.heap[g12]? = some (.cells (HR (zae 32 0) false 0 nd (dig (n2++pk)) false sk pk peer 0 (zae 32 0) (zae 32 0)) 76)) 28 #[.pointer (some ⟨g12,0,none⟩),.slice (some ⟨g25,0,none⟩) 1 1] 44 rfl kj kj (hmx26.mono fun e w' h=>⟨_,h.1,rfl,h.2⟩) fun v W16 h26=>?_
  obtain ⟨rfl,q16,r12_16⟩:=h26
  rw [←en3] at r12_16
  refine sgN hK24 <| sgB kj <| wp_ret ?_
  exact (show bodyPost _ _ _ .ret _ _ from ret1 (.pointer (some ⟨g12,0,none⟩)) rfl (Qa4 kj) ⟨_,rfl,(zaU (zaQ x14 e15) q16 b12),g12,rfl,b12,r12_16⟩)
end No
end
section
namespace Bx
open Go Go.RowKit
open Rely Auto Own Sha
def restA (a : Option Addr) (l cap:Nat):Option Addr:=if cap=l then a else a.map (·.add l)
theorem run_to {P : Program} {ρ:Operand→Value} {o:Oper} (t:TypeId) (x z:Operand) (h n cap:Nat) (a:Option Addr) (e:TypeId) (ho:o.op=.slice t x none (some z) none) (hx:ρ x=.slice a n cap)
    (hu:P.underlying t=some (.slice e)) (hs:(P.info? e).map (·.size)=some 1) (kz:IntKind) (hz:ρ z=.int kz (h:Int)) (h1:h≤cap) (w:World):(execOp ρ o).run P w=.ok (.value (.slice a h cap)) w:=by
  cases hq:P.info? e with
  | none=>simp [hq] at hs
  | some i =>
    have hs':i.size=1:=by simpa [hq] using hs
    unfold execOp
    have hadd:∀ a:Option Addr,Option.map (fun x=>x.add 0) a=a:=fun a=>by
      cases a with
      | none=>rfl
      | some a=>obtain ⟨b,o,s⟩:=a; cases s <;> simp [Addr.add]
    simp [ho,hx,hz,Instr.sliceAt,Instr.slice,Instr.sliceBounds,run_sliceBound,run_underlying hu,sizeOf,typeInfo,hq,hs',h1,hadd]
theorem run_rest {P : Program} {ρ:Operand→Value} {o:Oper} (t:TypeId) (x z:Operand) (l n cap:Nat) (a:Option Addr) (e:TypeId) (ho:o.op=.slice t x (some z) none none) (hx:ρ x=.slice a n cap)
    (hu:P.underlying t=some (.slice e)) (hs:(P.info? e).map (·.size)=some 1) (kz:IntKind) (hz:ρ z=.int kz (l:Int)) (h1:l≤n) (h2:n≤cap) (w:World):(execOp ρ o).run P w=.ok (.value (.slice (restA a l cap) (n-l) (cap-l))) w:=by
  cases hq:P.info? e with
  | none=>simp [hq] at hs
  | some i =>
    have hs':i.size=1:=by simpa [hq] using hs
    unfold execOp restA
    simp [ho,hx,hz,Instr.sliceAt,Instr.slice,Instr.sliceBounds,run_sliceBound,run_underlying hu,sizeOf,typeInfo,hq,hs',h1,h2]
theorem rdK_to {k : IntKind} {B n cap:Nat} {ys:List Int} {a:Option Addr} {w:World} (hv:RdK k B ys (.slice a n cap) w) {h:Nat} (h1:h≤ys.length):RdK k B (ys.take h) (.slice a h cap) w:=by
  obtain ⟨a',cap',e,y2,y3,y4,y5⟩:=hv
  simp only [zav.injEq] at e
  obtain ⟨rfl,rfl,rfl⟩:=e
  have hlen:(ys.take h).length=h:=by rw [zaw]; omega
  refine ⟨_,_,by rw [hlen],by omega,y3,y4,?_⟩
  rcases y5 with rfl | ⟨g,off,rfl,q2,q3,q4⟩
  · exact .inl (by simp)
  · refine .inr ⟨g,off,rfl,q2,q3,fun i hi=>?_⟩
    rw [hlen] at hi
    rw [q4 i (by omega)]
    simp [nth,List.getElem?_take,hi]
theorem rdK_rest' {k : IntKind} {B n cap:Nat} {ys:List Int} {a:Option Addr} {w:World} (hv:RdK k B ys (.slice a n cap) w) {l:Nat} (h1:l≤ys.length):RdK k B (ys.drop l) (.slice (restA a l cap) (n-l) (cap-l)) w:=by
  obtain ⟨a',cap',e,y2,y3,y4,y5⟩:=hv
  simp only [zav.injEq] at e
  obtain ⟨rfl,rfl,rfl⟩:=e
  unfold restA
  refine ⟨_,_,by rw [zax],by rw [zax]; omega,by omega,fun h=>?_,?_⟩
  · cases a with
    | none=>have:=y4 rfl; omega
    | some a=>split at h <;> simp at h
  · rcases y5 with rfl | ⟨g,off,rfl,q2,q3,q4⟩
    · exact .inl (by simp)
    · by_cases hl:l=ys.length
      · exact .inl (by rw [hl]; simp)
      · refine .inr ⟨g,off+l,?_,q2,q3,fun i hi=>?_⟩
        · rw [if_neg (by omega),zay,WideShapes.add_plain]
        · rw [zax] at hi
          rw [Nat.add_assoc,q4 (l+i) (by omega)]
          simp [nth]
theorem rdK_cap {k : IntKind} {B n cap:Nat} {ys:List Int} {a:Option Addr} {w:World} (hv:RdK k B ys (.slice a n cap) w):n≤cap:=by
  obtain ⟨a',cap',e,y2,_⟩:=hv
  simp only [zav.injEq] at e
  obtain ⟨rfl,rfl,rfl⟩:=e
  exact y2
theorem QiZ {w : World} {g k:Nat} {v:Value} (h:w.cell? ⟨g,k,none⟩=some v):∃ cs t fr,w.heap[g]? = some (.cells cs t fr):=by
  unfold zaz at h
  split at h
  · next c t f e=>exact ⟨c,t,f,e⟩
  · cases h
theorem load_cells {P : Program} {ρ:Operand→Value} {o:Oper} {w:World} (ty:TypeId) (x:Operand) (g off n:Nat) (xs:List Int) (hn:xs.length=n) (h0:0<n) (hc:∀ j,j<n→w.cell? ⟨g,off+j,none⟩=some (.int .u8 (nth xs j)))
    (ho:o.op=.load ty x) (hx:ρ x=.pointer (some ⟨g,off,none⟩)) (hu:aggD P ty=some true) (hi:(P.info? ty).map (·.size)=some n):(execOp ρ o).run P w=.ok (.value (.agg (ints .u8 xs))) w:=by
  obtain ⟨cs,t,fr,hg⟩:=QiZ (hc 0 h0)
  refine Qan ty x g off t cs (ints .u8 xs) fr hg ho hx (fun j v hv=>?_) hu (by rw [hi,QaD,hn])
  have hj:j<xs.length:=by
    have:=(Array.getElem?_eq_some_iff.1 hv).1
    rwa [QaD] at this
  have h1:=hc j (by omega)
  unfold zaz at h1
  simp only [hg] at h1
  rw [Qay _ _ _ hj] at hv
  rw [←hv,←h1]
  rfl
section
variable {ds : List Deferred} {P : Program} {ops : Array Oper} {Q : Exit → Act → World → Prop} {rest : List Oper} {o : Oper} {N : Nat} {L : Env} {W : World}
theorem seq_appendF {T : TypeId} (b:Nat) (s x:Operand) (t:TypeId) (ho:o.op=.call { callee:=.builtin .append,args:=#[s,x],argTypes:=#[t,t] })
    (ht:P.underlying t=some (.slice T)) (hi:(P.info? T).map (fun i=>(i.zero,i.size,i.bytes))=some (some (.int .u8 0),1,b)) (hb8:b≤8) (d:Nat) (hd:o.dst=some d) (hg:Qcd ops o N L=some true)
    {g off n:Nat} {B:Nat} {y:Value} {xs ys:List Int} (hs:Rely.look (envN N L) s=.slice (some ⟨g,off,none⟩) n n) (hx:Rely.look (envN N L) x=y) (hn:xs.length=n)
    (hc:∀ i,i<n→W.cell? ⟨g,off+i,none⟩=some (.int .u8 (nth xs i))) (hy:RdK .u8 B ys y W) (hlen:xs.length+ys.length≤1000000000) (h0:0<ys.length)
    (kk:∀ (u:Value) (W':World),OwnN .u8 T W.heap.size (xs++ys) u W'→Ext W W'→WL P ops Q rest (Qau ds N ((d,u)::L)) W'):WL P ops Q (o::rest) (Qau ds N L) W:=by
  obtain ⟨i,hq,hi1,hi2,hi3⟩:=Qpx hi
  obtain ⟨a,cap,rfl,y2,y3,y4,y5⟩:=hy
  rcases y5 with rfl | ⟨g',o',rfl,e2,e3,e4⟩
  · exact absurd h0 (by simp)
  have holds:∀ j v,(xs.map (za0 .u8))[j]? = some v→W.cell? ((⟨g,off,none⟩:Addr).add j)=some v:=Qir (fun i h=>hc i (by omega))
  have hnews:∀ j u,(ys.map (za0 .u8))[j]? = some u→W.cell? ((⟨g',o',none⟩:Addr).add j)=some u:=Qir e4
  have hr:=run_append_grow (P:=P) (w:=W) t o.type T i (.int .u8 0) ht hq hi1 ⟨g,off,none⟩ n n (xs.map (za0 .u8)) (by simp [hi2,hn]) holds ⟨g',o',none⟩ ys.length cap (ys.map (za0 .u8)) (by simp [hi2]) hnews (by omega) (by omega) (growslice_fits (by omega) (by
    rw [hi3]
    have:(n+ys.length)*b≤1000000000*8:=Nat.mul_le_mul (by omega) hb8
    omega))
  have hge:=grownCap_ge W (n+ys.length) n T
  have hcm:grownCap W (n+ys.length) n T≤maxLen:=grownCap_le_maxLen W (n+ys.length) n T (by simp only [maxLen]; omega)
  refine Qcs _ _ d hd hg (show (execOp (Rely.look (envN N L)) o).run P W=.ok (.value _) _ from by
    unfold execOp
    simp only [ho,resolve,invoke,builtin,Sem.run_bind,Sem.run_pure,Result.andThen_ok,List.map_toArray,zak,zal,hs,hx,hr]
    rfl) (kk _ _ ?_ ?_)
  · refine ⟨⟨by simp,.inr ⟨W.heap.size,_,_,by rw [zap,hn],qR _,heap_alloc_new W.drew _,by rw [zap,hn]; exact hge,hcm,?_,?_⟩⟩,by rw [zap]; simp only [maxLen]; omega⟩
    · simp only [qS,List.size_toArray,size_zeroCells,za1,hn]
      show n+ys.length+(grownCap W (n+ys.length) n T-(n+ys.length))*1=_
      omega
    · simp only [Array.toList_append,za2]
      rw [←za2,←za3]
      exact za4 (by rw [za1,Nat.mul_one])
  · exact ⟨rfl,rfl,rfl,by simp,fun k hk=>heap_alloc_old W.drew _ hk⟩
end
end Bx
end
section
namespace No
open Go Go.RowKit
open Rely Auto Own Sha
open Cha
open Ae hiding run_storeQ
open Ll hiding run_storeQ
open Ci
open Field (Qav pubL agN Qat Qbc QaE Qbk)
theorem Qkm {w : World} {g:Nat} {ys:List Int} {t:TypeId} {fr:Nat×Nat} (h:w.heap[g]? = some (.cells (ints .u8 ys) t fr)) (hy:ys.length=32):∀ i,i<32→w.cell? ⟨g,0+i,none⟩=some (.int .u8 (nth ys i)):=fun i hi=>by
  unfold zaz
  simp only [h]
  rw [Nat.zero_add,Qay _ _ _ (by omega)]
  rfl
set_option maxRecDepth 100000 in
theorem Qo9 (g : Nat) (key chain hash sk pk peer mine theirs:List Int) (has begins:Bool) (num:Int) (e text h1 k1 c1 k2 c2 fs:List Int) (tc tq th tr:TypeId) (w:World) (hkl:key.length=32) (hcl:chain.length=32) (hhl:hash.length=32) (hskl:sk.length=32) (hpkl:pk.length=32) (hpel:peer.length=32) (hmil:mine.length=32) (hthl:theirs.length=32) (hcb:Qaf chain) (hhb:Qaf hash) (hskb:Qaf sk) (hpkb:Qaf pk) (hpeb:Qaf peer) (hmib:Qaf mine) (hthb:Qaf theirs) (hel:e.length=32) (heb:Qaf e) (ha0:(agN e peer==0)=false) (ha1:(agN sk peer==0)=false)
    (eh1:h1=dig (hash++pubL e)) (ec1:c1=twA (hmac chain (Qav (agN e peer)))) (ek1:k1=twB (hmac chain (Qav (agN e peer)))) (ec2:c2=twA (hmac c1 (Qav (agN sk peer)))) (ek2:k2=twB (hmac c1 (Qav (agN sk peer)))) (es:Qc0 k2 (nonV 0) h1 text=fs) (htl:text.length≤1024) (v:Value) (hst:∀ W,ExtB g w W→RdK .u8 W.heap.size text v W) (hT:Tabs tc tq th tr w) (hnc:1≠g) (hnq:0≠g) (hnh:2≠g) (hnr:3≠g) (hg:w.heap[g]? = some (.cells (HR key has num chain hash begins sk pk peer 0 mine theirs) 76)) :
    Calls Tryz.prog 31 #[.pointer (some ⟨g,0,none⟩),.agg (ints .u8 e),v] w (fun x W=>∃ u,x=.returned (.tuple #[u,.nilIface])∧OwnN .u8 5 w.heap.size (pubL e++fs) u W∧ExtB g w W∧W.heap[g]? = some (.cells (HR k2 true 1 c2 (dig (h1++fs)) begins sk pk peer 1 e theirs) 76)):=by
  obtain ⟨a_t,c_t,rfl,-⟩:=id (hst _ (zaR g w))
  have hh1l:h1.length=32:=by rw [eh1]; exact QaV _
  have hh1b:Qaf h1:=by rw [eh1]; exact Qbo _
  have hk2l:k2.length=32:=by rw [ek2]; exact QaN _
  have hc2l:c2.length=32:=by rw [ec2]; exact QaJ _
  have lfs:fs.length=text.length+16:=by rw [←es]; exact QbR _ _ _ _
  have hfb:Qaf fs:=by rw [←es]; exact Qdw _ _ _ _
  have hc4:=hT.c
  have hq4:=hT.q
  have hh4:=hT.h
  have hr4:=hT.r
  refine enter 54 [(0,.pointer (some ⟨g,0,none⟩)),(1,.agg (ints .u8 (e))),(2,.slice a_t text.length c_t)] Tryz.func31 rfl rfl kj rfl <| sgC fun K6 hK6=>Qak (ints .u8 (e)) 23 4 rfl kj kj fun g7 W1 l7 e1 r7_1=>?_
  have b7:=qT (zaM w).size l7
  refine sg 2 kj <| sgN hK6 <| sgC fun K8 hK8=>sg 1 kj <| Qac (.agg (ints .u8 (e))) 13 rfl kj (Qae 23 _ g7 23 _ _ r7_1 rfl kj kj (isz (n:=32) kj (izT hel))) <| sg 2 kj ?_
  have xb1:=zaS (zaR g w) (zaQ (zaM w) e1)
  have r1_1:=(Qaa hg e1)
  refine Qai g _ (HR key has num chain hash begins sk pk peer 0 e theirs) 76 r1_1 rfl kj (Qbm 23 _ _ g 196 76 [ints .u8 (key),#[.bool has],#[.int .i64 num],ints .u8 (chain),ints .u8 (hash),#[.bool begins],ints .u8 (sk),ints .u8 (pk),ints .u8 (peer),#[.int .i64 0]] [ints .u8 (mine)] [ints .u8 (e)] [ints .u8 (theirs)] r1_1 rfl kj kj (isz (n:=32) kj (izT hel)) (by (try unfold HR); rw [Qab,Qab,Qab,Qab,Qab,Qab,Qab,Qab,Qab,Qab]; simp only [qS,cat,(izT hcl),(izT hhl),(izT hkl),(izT hpel),(izT hpkl),(izT hskl)]; rfl) (eqsz (n:=32) (izT hel) (izT hmil)) (ints_one _ _)) fun W2 p2 r1_2=>?_
  refine sgN hK8 <| sgC fun K9 hK9=>Qac (.agg (ints .u8 (e))) 16 rfl kj (Qae 23 _ g7 23 _ _ (zaO p2 r7_1 (Qap hg l7)) rfl kj kj (isz (n:=32) kj (izT hel))) <| Qas (.agg (ints .u8 (pubL e))) 46 #[.agg (ints .u8 (e))] 17 rfl kj kj ((Field.public_ e hel heb) _) fun W3 e3=>?_
  have x3:=zaS (ExtB.puts xb1 p2) e3
  refine Qak (ints .u8 (zae 32 0)) 23 8 rfl kj kj fun g10 W4 l10 e4 r10_4=>Qai g10 _ (ints .u8 (pubL e)) 23 r10_4 rfl kj (Qag 23 _ _ g10 23 _ _ r10_4 rfl kj kj (isz (n:=32) kj (izT (Qat e))) (eqsz (n:=32) (izT (qZ (n:=32))) (izT (Qat e))) (ints_one _ _)) fun W5 p5 r10_5=>?_
  have x5:=ExtB.putsN (zaS x3 e4) p5 (qT x3.size l10)
  refine sgN hK9 <| wp_seq_k fun K11 hK11=>Qba 5 [⟨none,[(0,none)]⟩,⟨none,[(18,some 0)]⟩,⟨none,[(19,some 1)]⟩,⟨none,[(8,none)]⟩,⟨none,[(21,some 3)]⟩] kj kj fun F hF=>Qa6 (Qar _) (.pointer (some ⟨g,0,none⟩)) kj kj (fun _=>kj) <| Qa6 (Qar _) (.pointer (some ⟨g,0,none⟩)) kj kj (fun _=>kj) <| Qa6 (Qar _) (.pointer (some ⟨g,0,none⟩)) kj kj (fun _=>kj) <| Qa6 (Qar _) (.slice (some ⟨g10,0,none⟩) 32 32) kj kj (fun _=>kj) <| QeL (Qar _) (#[.slice (some ⟨g10,0,none⟩) 32 32]) 24 1 (zaW _ _ _ _) kj kj (fun _=>kj) <| Qdr (hF _ fun W6 e6=>?_)
  simp only [zag,zah,zar,zas,zat,zau,finE,up]
  intro vv12 hv12
  clear hF
  obtain ⟨g12,rfl,l12,r12_6⟩:=hv12
  have b12:=qT x5.2.2.2.1 l12
  have r10_6:=(Qaa r10_5 e6)
  have hps13:∀ p∈([(.slice (some ⟨g10,0,none⟩) 32 32,pubL e)]:List (Value×List Int)),RdK .u8 W6.heap.size p.2 p.1 W6∧Qaf p.2:=by
    intro p hp
    simp only [zai,zaj,or_false] at hp
    rcases hp with rfl
    · exact ⟨zaZ (Qb8 (xs:=pubL e) (n:=32) (Qat e) r10_6 (Qa7 r10_6) (show 32≤maxLen from by decide)),(Field.bytesOf_areBytes _)⟩
  have r4_3:=(Qaa (zaO p2 (Qaa hc4 e1) hnc) e3)
  have r4_6:=(Qaa (rpn p5 r4_3 e4 l10) e6)
  have r5_3:=(Qaa (zaO p2 (Qaa hq4 e1) hnq) e3)
  have r5_6:=(Qaa (rpn p5 r5_3 e4 l10) e6)
  have r1_3:=(Qaa r1_2 e3)
  have hmx13:=QcZ g (key) (chain) (hash) has num g12 1 _ ([(.slice (some ⟨g10,0,none⟩) 32 32,pubL e)]:List (Value×List Int)) rfl (by decide) tc tq W6 hkl hcl hhl hhb r4_6 r5_6 (Qaa (rpn p5 r1_3 e4 l10) e6) r12_6 hps13 (by simp only [zak,zal,zam,zan,zao,zap,Qat]; omega)
  rw [show ((zaq Prod.snd ([(.slice (some ⟨g10,0,none⟩) 32 32,pubL e)]:List (Value×List Int))).flatten)=pubL e by simp only [zak,zal,zam,zan,zao]] at hmx13
  refine Qaw (fun v W'=>v=.tuple #[]∧ExtB g W6 W'∧W'.heap[g]? = some (.cells (HR key has num chain (dig (hash++pubL e)) begins sk pk peer 0 e theirs) 76)) 28 #[.pointer (some ⟨g,0,none⟩),.slice (some ⟨g12,0,none⟩) 1 1] 23 rfl kj kj (hmx13.mono fun e w' h=>⟨_,h.1,rfl,h.2⟩) fun v W7 h13=>?_
  obtain ⟨rfl,q7,r1_7⟩:=h13
  rw [←eh1] at r1_7
  refine sgN hK11 <| wp_seq_k fun K14 hK14=>wp_seq_k fun K15 hK15=>QaQ 10 [⟨none,[(0,none)]⟩,⟨none,[(0,none)]⟩,⟨none,[(25,some 1)]⟩,⟨none,[(26,some 2)]⟩,⟨none,[(27,some 3)]⟩,⟨none,[(0,none)]⟩,⟨none,[(29,some 5)]⟩,⟨none,[(30,some 6)]⟩,⟨none,[(31,some 7)]⟩,⟨none,[(28,some 4),(32,some 8)]⟩] kj kj fun F hF=>Qal (.pointer (some ⟨g,0,none⟩)) kj kj (fun _=>kj) <| Qal (.pointer (some ⟨g,0,none⟩)) kj kj (fun _=>kj) <| Qal (.pointer (some ⟨g,0,none⟩)) kj kj (fun _=>kj) <| Qal (.pointer (some ⟨g,196,none⟩)) kj kj (fun _=>kj) <| Qax (.agg (ints .u8 (e))) kj kj (fun W hR=>(Qan 23 _ g 196 76 _ _ _ (Qaa (Qaa r1_7 (Qah _)) hR) rfl kj (Qaq [ints .u8 (key),#[.bool has],#[.int .i64 num],ints .u8 (chain),ints .u8 (h1),#[.bool begins],ints .u8 (sk),ints .u8 (pk),ints .u8 (peer),#[.int .i64 0]] [ints .u8 (e)] [ints .u8 (theirs)] 196 (by (try unfold HR); rw [Qab,Qab,Qab,Qab,Qab,Qab,Qab,Qab,Qab,Qab]; simp only [qS,cat,(izT hcl),(izT hh1l),(izT hkl),(izT hpel),(izT hpkl),(izT hskl)]; rfl)) kj (isz (n:=32) kj (izT hel)))) ?_
  refine Qal (.pointer (some ⟨g,0,none⟩)) kj kj (fun _=>kj) <| Qal (.pointer (some ⟨g,0,none⟩)) kj kj (fun _=>kj) <| Qal (.pointer (some ⟨g,163,none⟩)) kj kj (fun _=>kj) <| Qax (.agg (ints .u8 (peer))) kj kj (fun W hR=>(Qan 23 _ g 163 76 _ _ _ (Qaa (Qaa r1_7 (Qah _)) hR) rfl kj (Qaq [ints .u8 (key),#[.bool has],#[.int .i64 num],ints .u8 (chain),ints .u8 (h1),#[.bool begins],ints .u8 (sk),ints .u8 (pk)] [ints .u8 (peer)] [#[.int .i64 0],ints .u8 (e),ints .u8 (theirs)] 163 (by rw [Qab,Qab,Qab,Qab,Qab,Qab,Qab,Qab]; simp only [qS,cat,(izT hcl),(izT hh1l),(izT hkl),(izT hpkl),(izT hskl)]; rfl)) kj (isz (n:=32) kj (izT hpel)))) ?_
  refine Qal (.agg (cat [ints .u8 (e),ints .u8 (peer)])) kj kj (fun W=>(Qbk 33 _ (.agg (cat [ints .u8 (zae 32 0),ints .u8 (zae 32 0)])) #[(0,32),(32,32)] [(0,32,.agg (ints .u8 (e)),ints .u8 (e)),(1,32,.agg (ints .u8 (peer)),ints .u8 (peer))] rfl kj ⟨kj,rfl,(izT hel),kj,rfl,(izT hpel),trivial⟩ kj kj kj kj)) <| QaH (hF _ kj fun W8 e8=>?_)
  simp only [ups,up,Kn.val,zar,zas,zat,zau,zag,zah]
  clear hF
  have r4_8:=(Qaa (zaT q7 r4_6 hnc) e8)
  have r5_8:=(Qaa (zaT q7 r5_6 hnq) e8)
  have r3_3:=(Qaa (zaO p2 (Qaa hh4 e1) hnh) e3)
  have r3_8:=(Qaa (zaT q7 (Qaa (rpn p5 r3_3 e4 l10) e6) hnh) e8)
  have r2_3:=(Qaa (zaO p2 (Qaa hr4 e1) hnr) e3)
  have r2_8:=(Qaa (zaT q7 (Qaa (rpn p5 r2_3 e4 l10) e6) hnr) e8)
  refine Qaw (fun v W'=>v=.nilIface∧ExtB g W8 W'∧W'.heap[g]? = some (.cells (HR k2 true 0 c2 h1 begins sk pk peer 0 e theirs) 76)) 47 #[.pointer (some ⟨g,0,none⟩),.agg (cat [ints .u8 (e),ints .u8 (peer)])] 34 rfl kj kj ((agree_0 g key chain h1 sk pk peer e theirs has begins num e peer k1 c1 k2 c2 tc tq th tr _ hkl hcl hh1l hskl hpkl hpel hel hthl hcb hh1b hskb hpkb hpeb heb hthb hel heb hpel hpeb ha0 ha1 ec1 ek1 ec2 ek2 ⟨r4_8,r5_8,r3_8,r2_8⟩ hnc hnq hnh hnr (Qaa r1_7 e8)).mono (by intro e w' h; exact ⟨_,h.1,rfl,h.2.1,h.2.2⟩)) fun v W9 h16=>?_
  obtain ⟨rfl,q9,r1_9⟩:=h16
  have x9:=zaV (zaS (zaV (zaS x5 e6) q7) e8) q9
  refine sg 1 kj <| sgN hK15 <| sgB kj <| cond_false kj <| wp_skip <| hK14 _ _ <| sgC fun K18 hK18=>sg 4 kj <| Qaw (fun v W'=>∃ u,v=.tuple #[u,.nilIface]∧OwnN .u8 5 W9.heap.size (fs) u W'∧ExtB g W9 W'∧W'.heap[g]? = some (.cells (HR k2 true 1 c2 (dig (h1++fs)) begins sk pk peer 0 e theirs) 76)) 48 #[.pointer (some ⟨g,0,none⟩),.slice a_t text.length c_t] 43 rfl kj kj ((Qqx g k2 c2 h1 text fs es _ _ th tr tc tq _ hk2l hc2l hh1l hh1b (zaT q9 r3_8 hnh) (zaT q9 r2_8 hnr) (zaT q9 r4_8 hnc) (zaT q9 r5_8 hnq) hnh hnr hnc hnq r1_9 hfb lfs (by omega) (hst _ x9)).mono (by rintro e w' ⟨u,rfl,h1,h2,h3⟩; exact ⟨_,rfl,u,rfl,h1,h2,h3⟩)) fun v W10 h19=>?_
  obtain ⟨u19_,rfl,hu19_,q10,r1_10⟩:=h19
  obtain ⟨a19_,c19_,rfl,-⟩:=id (zaY hu19_)
  refine sg 5 kj <| sgN hK18 <| wp_seq_k fun K20 hK20=>sgB kj <| cond_false kj <| wp_skip <| hK20 _ _ <| sgC fun K22 hK22=>sg 1 kj <| Qaw (fun v W'=>v=.tuple #[]∧ExtB g W10 W'∧W'.heap[g]? = some (.cells (HR k2 true 1 c2 (dig (h1++fs)) begins sk pk peer 1 e theirs) 76)) 49 #[.pointer (some ⟨g,0,none⟩)] 50 rfl kj kj ((QiJ g k2 c2 (dig (h1++fs)) sk pk peer e theirs true begins 1 _ hk2l hc2l (QaV _) hskl hpkl hpel hel hthl r1_10).mono (by intro e w' h; exact ⟨_,h.1,rfl,h.2.1,h.2.2⟩)) fun v W11 h23=>?_
  obtain ⟨rfl,q11,r1_11⟩:=h23
  have x11:=zaV (zaV x9 q10) q11
  refine sgN hK22 <| sgC fun K24 hK24=>sg 2 kj <| Bx.seq_appendF (T:=5) 1 (.tmp 51) (.tmp 52) 24 rfl kj kj (by decide) 53 rfl kj (g:=g10) (off:=0) (n:=32) (xs:=pubL e) (ys:=fs) kj kj (Qat e) (Qkm (zaT q11 (zaT q10 (zaT q9 (Qaa (zaT q7 r10_6 (Qap r1_3 l10)) e8) (Qap r1_3 l10)) (Qap r1_3 l10)) (Qap r1_3 l10)) (Qat e)) (zaY (QcY hu19_ q11 (Qei hu19_ (Qa7 r1_9)))) (by rw [Qat,lfs]; omega) (by omega) fun ap W12 fap e12=>?_
  refine sg 2 kj <| sgN hK24 <| wp_ret ?_
  exact (show bodyPost _ _ _ .ret _ _ from ret2 (ap) (.nilIface) rfl (Qa4 kj) (Qa4 kj) ⟨ap,rfl,zaX x11.2.2.2.1 fap,(zaS x11 e12),(Qaa r1_11 e12)⟩)
set_option maxRecDepth 100000 in
theorem Qo8 (g : Nat) (key chain hash sk pk peer mine theirs:List Int) (has begins:Bool) (num:Int) (e text h1 k1 c1 k2 c2 fs:List Int) (tc tq th tr:TypeId) (w:World) (hkl:key.length=32) (hcl:chain.length=32) (hhl:hash.length=32) (hskl:sk.length=32) (hpkl:pk.length=32) (hpel:peer.length=32) (hmil:mine.length=32) (hthl:theirs.length=32) (hcb:Qaf chain) (hhb:Qaf hash) (hskb:Qaf sk) (hpkb:Qaf pk) (hpeb:Qaf peer) (hmib:Qaf mine) (hthb:Qaf theirs) (hel:e.length=32) (heb:Qaf e) (ha0:(agN e peer==0)=false) (ha1:(agN e theirs==0)=false)
    (eh1:h1=dig (hash++pubL e)) (ec1:c1=twA (hmac chain (Qav (agN e theirs)))) (ek1:k1=twB (hmac chain (Qav (agN e theirs)))) (ec2:c2=twA (hmac c1 (Qav (agN e peer)))) (ek2:k2=twB (hmac c1 (Qav (agN e peer)))) (es:Qc0 k2 (nonV 0) h1 text=fs) (htl:text.length≤1024) (v:Value) (hst:∀ W,ExtB g w W→RdK .u8 W.heap.size text v W) (hT:Tabs tc tq th tr w) (hnc:1≠g) (hnq:0≠g) (hnh:2≠g) (hnr:3≠g) (hg:w.heap[g]? = some (.cells (HR key has num chain hash begins sk pk peer 1 mine theirs) 76)) :
    Calls Tryz.prog 31 #[.pointer (some ⟨g,0,none⟩),.agg (ints .u8 e),v] w (fun x W=>∃ u,x=.returned (.tuple #[u,.nilIface])∧OwnN .u8 5 w.heap.size (pubL e++fs) u W∧ExtB g w W∧W.heap[g]? = some (.cells (HR k2 true 1 c2 (dig (h1++fs)) begins sk pk peer 2 (zae 32 0) theirs) 76)):=by
  obtain ⟨a_t,c_t,rfl,-⟩:=id (hst _ (zaR g w))
  have hh1l:h1.length=32:=by rw [eh1]; exact QaV _
  have hh1b:Qaf h1:=by rw [eh1]; exact Qbo _
  have hk2l:k2.length=32:=by rw [ek2]; exact QaN _
  have hc2l:c2.length=32:=by rw [ec2]; exact QaJ _
  have lfs:fs.length=text.length+16:=by rw [←es]; exact QbR _ _ _ _
  have hfb:Qaf fs:=by rw [←es]; exact Qdw _ _ _ _
  have hc4:=hT.c
  have hq4:=hT.q
  have hh4:=hT.h
  have hr4:=hT.r
  refine enter 54 [(0,.pointer (some ⟨g,0,none⟩)),(1,.agg (ints .u8 (e))),(2,.slice a_t text.length c_t)] Tryz.func31 rfl rfl kj rfl <| sgC fun K6 hK6=>Qak (ints .u8 (e)) 23 4 rfl kj kj fun g7 W1 l7 e1 r7_1=>?_
  have b7:=qT (zaM w).size l7
  refine sg 2 kj <| sgN hK6 <| sgC fun K8 hK8=>sg 1 kj <| Qac (.agg (ints .u8 (e))) 13 rfl kj (Qae 23 _ g7 23 _ _ r7_1 rfl kj kj (isz (n:=32) kj (izT hel))) <| sg 2 kj ?_
  have xb1:=zaS (zaR g w) (zaQ (zaM w) e1)
  have r1_1:=(Qaa hg e1)
  refine Qai g _ (HR key has num chain hash begins sk pk peer 1 e theirs) 76 r1_1 rfl kj (Qbm 23 _ _ g 196 76 [ints .u8 (key),#[.bool has],#[.int .i64 num],ints .u8 (chain),ints .u8 (hash),#[.bool begins],ints .u8 (sk),ints .u8 (pk),ints .u8 (peer),#[.int .i64 1]] [ints .u8 (mine)] [ints .u8 (e)] [ints .u8 (theirs)] r1_1 rfl kj kj (isz (n:=32) kj (izT hel)) (by (try unfold HR); rw [Qab,Qab,Qab,Qab,Qab,Qab,Qab,Qab,Qab,Qab]; simp only [qS,cat,(izT hcl),(izT hhl),(izT hkl),(izT hpel),(izT hpkl),(izT hskl)]; rfl) (eqsz (n:=32) (izT hel) (izT hmil)) (ints_one _ _)) fun W2 p2 r1_2=>?_
  refine sgN hK8 <| sgC fun K9 hK9=>Qac (.agg (ints .u8 (e))) 16 rfl kj (Qae 23 _ g7 23 _ _ (zaO p2 r7_1 (Qap hg l7)) rfl kj kj (isz (n:=32) kj (izT hel))) <| Qas (.agg (ints .u8 (pubL e))) 46 #[.agg (ints .u8 (e))] 17 rfl kj kj ((Field.public_ e hel heb) _) fun W3 e3=>?_
  have x3:=zaS (ExtB.puts xb1 p2) e3
  refine Qak (ints .u8 (zae 32 0)) 23 8 rfl kj kj fun g10 W4 l10 e4 r10_4=>Qai g10 _ (ints .u8 (pubL e)) 23 r10_4 rfl kj (Qag 23 _ _ g10 23 _ _ r10_4 rfl kj kj (isz (n:=32) kj (izT (Qat e))) (eqsz (n:=32) (izT (qZ (n:=32))) (izT (Qat e))) (ints_one _ _)) fun W5 p5 r10_5=>?_
  have x5:=ExtB.putsN (zaS x3 e4) p5 (qT x3.size l10)
  refine sgN hK9 <| wp_seq_k fun K11 hK11=>Qba 5 [⟨none,[(0,none)]⟩,⟨none,[(18,some 0)]⟩,⟨none,[(19,some 1)]⟩,⟨none,[(8,none)]⟩,⟨none,[(21,some 3)]⟩] kj kj fun F hF=>Qa6 (Qar _) (.pointer (some ⟨g,0,none⟩)) kj kj (fun _=>kj) <| Qa6 (Qar _) (.pointer (some ⟨g,0,none⟩)) kj kj (fun _=>kj) <| Qa6 (Qar _) (.pointer (some ⟨g,0,none⟩)) kj kj (fun _=>kj) <| Qa6 (Qar _) (.slice (some ⟨g10,0,none⟩) 32 32) kj kj (fun _=>kj) <| QeL (Qar _) (#[.slice (some ⟨g10,0,none⟩) 32 32]) 24 1 (zaW _ _ _ _) kj kj (fun _=>kj) <| Qdr (hF _ fun W6 e6=>?_)
  simp only [zag,zah,zar,zas,zat,zau,finE,up]
  intro vv12 hv12
  clear hF
  obtain ⟨g12,rfl,l12,r12_6⟩:=hv12
  have b12:=qT x5.2.2.2.1 l12
  have r10_6:=(Qaa r10_5 e6)
  have hps13:∀ p∈([(.slice (some ⟨g10,0,none⟩) 32 32,pubL e)]:List (Value×List Int)),RdK .u8 W6.heap.size p.2 p.1 W6∧Qaf p.2:=by
    intro p hp
    simp only [zai,zaj,or_false] at hp
    rcases hp with rfl
    · exact ⟨zaZ (Qb8 (xs:=pubL e) (n:=32) (Qat e) r10_6 (Qa7 r10_6) (show 32≤maxLen from by decide)),(Field.bytesOf_areBytes _)⟩
  have r4_3:=(Qaa (zaO p2 (Qaa hc4 e1) hnc) e3)
  have r4_6:=(Qaa (rpn p5 r4_3 e4 l10) e6)
  have r5_3:=(Qaa (zaO p2 (Qaa hq4 e1) hnq) e3)
  have r5_6:=(Qaa (rpn p5 r5_3 e4 l10) e6)
  have r1_3:=(Qaa r1_2 e3)
  have hmx13:=QcZ g (key) (chain) (hash) has num g12 1 _ ([(.slice (some ⟨g10,0,none⟩) 32 32,pubL e)]:List (Value×List Int)) rfl (by decide) tc tq W6 hkl hcl hhl hhb r4_6 r5_6 (Qaa (rpn p5 r1_3 e4 l10) e6) r12_6 hps13 (by simp only [zak,zal,zam,zan,zao,zap,Qat]; omega)
  rw [show ((zaq Prod.snd ([(.slice (some ⟨g10,0,none⟩) 32 32,pubL e)]:List (Value×List Int))).flatten)=pubL e by simp only [zak,zal,zam,zan,zao]] at hmx13
  refine Qaw (fun v W'=>v=.tuple #[]∧ExtB g W6 W'∧W'.heap[g]? = some (.cells (HR key has num chain (dig (hash++pubL e)) begins sk pk peer 1 e theirs) 76)) 28 #[.pointer (some ⟨g,0,none⟩),.slice (some ⟨g12,0,none⟩) 1 1] 23 rfl kj kj (hmx13.mono fun e w' h=>⟨_,h.1,rfl,h.2⟩) fun v W7 h13=>?_
  obtain ⟨rfl,q7,r1_7⟩:=h13
  rw [←eh1] at r1_7
  refine sgN hK11 <| wp_seq_k fun K14 hK14=>wp_seq_k fun K15 hK15=>QaQ 10 [⟨none,[(0,none)]⟩,⟨none,[(0,none)]⟩,⟨none,[(25,some 1)]⟩,⟨none,[(26,some 2)]⟩,⟨none,[(27,some 3)]⟩,⟨none,[(0,none)]⟩,⟨none,[(29,some 5)]⟩,⟨none,[(30,some 6)]⟩,⟨none,[(31,some 7)]⟩,⟨none,[(28,some 4),(32,some 8)]⟩] kj kj fun F hF=>Qal (.pointer (some ⟨g,0,none⟩)) kj kj (fun _=>kj) <| Qal (.pointer (some ⟨g,0,none⟩)) kj kj (fun _=>kj) <| Qal (.pointer (some ⟨g,0,none⟩)) kj kj (fun _=>kj) <| Qal (.pointer (some ⟨g,196,none⟩)) kj kj (fun _=>kj) <| Qax (.agg (ints .u8 (e))) kj kj (fun W hR=>(Qan 23 _ g 196 76 _ _ _ (Qaa (Qaa r1_7 (Qah _)) hR) rfl kj (Qaq [ints .u8 (key),#[.bool has],#[.int .i64 num],ints .u8 (chain),ints .u8 (h1),#[.bool begins],ints .u8 (sk),ints .u8 (pk),ints .u8 (peer),#[.int .i64 1]] [ints .u8 (e)] [ints .u8 (theirs)] 196 (by (try unfold HR); rw [Qab,Qab,Qab,Qab,Qab,Qab,Qab,Qab,Qab,Qab]; simp only [qS,cat,(izT hcl),(izT hh1l),(izT hkl),(izT hpel),(izT hpkl),(izT hskl)]; rfl)) kj (isz (n:=32) kj (izT hel)))) ?_
  refine Qal (.pointer (some ⟨g,0,none⟩)) kj kj (fun _=>kj) <| Qal (.pointer (some ⟨g,0,none⟩)) kj kj (fun _=>kj) <| Qal (.pointer (some ⟨g,163,none⟩)) kj kj (fun _=>kj) <| Qax (.agg (ints .u8 (peer))) kj kj (fun W hR=>(Qan 23 _ g 163 76 _ _ _ (Qaa (Qaa r1_7 (Qah _)) hR) rfl kj (Qaq [ints .u8 (key),#[.bool has],#[.int .i64 num],ints .u8 (chain),ints .u8 (h1),#[.bool begins],ints .u8 (sk),ints .u8 (pk)] [ints .u8 (peer)] [#[.int .i64 1],ints .u8 (e),ints .u8 (theirs)] 163 (by rw [Qab,Qab,Qab,Qab,Qab,Qab,Qab,Qab]; simp only [qS,cat,(izT hcl),(izT hh1l),(izT hkl),(izT hpkl),(izT hskl)]; rfl)) kj (isz (n:=32) kj (izT hpel)))) ?_
  refine Qal (.agg (cat [ints .u8 (e),ints .u8 (peer)])) kj kj (fun W=>(Qbk 33 _ (.agg (cat [ints .u8 (zae 32 0),ints .u8 (zae 32 0)])) #[(0,32),(32,32)] [(0,32,.agg (ints .u8 (e)),ints .u8 (e)),(1,32,.agg (ints .u8 (peer)),ints .u8 (peer))] rfl kj ⟨kj,rfl,(izT hel),kj,rfl,(izT hpel),trivial⟩ kj kj kj kj)) <| QaH (hF _ kj fun W8 e8=>?_)
  simp only [ups,up,Kn.val,zar,zas,zat,zau,zag,zah]
  clear hF
  have r4_8:=(Qaa (zaT q7 r4_6 hnc) e8)
  have r5_8:=(Qaa (zaT q7 r5_6 hnq) e8)
  have r3_3:=(Qaa (zaO p2 (Qaa hh4 e1) hnh) e3)
  have r3_8:=(Qaa (zaT q7 (Qaa (rpn p5 r3_3 e4 l10) e6) hnh) e8)
  have r2_3:=(Qaa (zaO p2 (Qaa hr4 e1) hnr) e3)
  have r2_8:=(Qaa (zaT q7 (Qaa (rpn p5 r2_3 e4 l10) e6) hnr) e8)
  refine Qaw (fun v W'=>v=.nilIface∧ExtB g W8 W'∧W'.heap[g]? = some (.cells (HR k2 true 0 c2 h1 begins sk pk peer 1 e theirs) 76)) 47 #[.pointer (some ⟨g,0,none⟩),.agg (cat [ints .u8 (e),ints .u8 (peer)])] 34 rfl kj kj ((QmI g key chain h1 sk pk peer e theirs has begins num e peer k1 c1 k2 c2 tc tq th tr _ hkl hcl hh1l hskl hpkl hpel hel hthl hcb hh1b hskb hpkb hpeb heb hthb hel heb hpel hpeb ha0 ha1 ec1 ek1 ec2 ek2 ⟨r4_8,r5_8,r3_8,r2_8⟩ hnc hnq hnh hnr (Qaa r1_7 e8)).mono (by intro e w' h; exact ⟨_,h.1,rfl,h.2.1,h.2.2⟩)) fun v W9 h16=>?_
  obtain ⟨rfl,q9,r1_9⟩:=h16
  have x9:=zaV (zaS (zaV (zaS x5 e6) q7) e8) q9
  refine sg 1 kj <| sgN hK15 <| sgB kj <| cond_false kj <| wp_skip <| hK14 _ _ <| sgC fun K18 hK18=>sg 4 kj <| Qaw (fun v W'=>∃ u,v=.tuple #[u,.nilIface]∧OwnN .u8 5 W9.heap.size (fs) u W'∧ExtB g W9 W'∧W'.heap[g]? = some (.cells (HR k2 true 1 c2 (dig (h1++fs)) begins sk pk peer 1 e theirs) 76)) 48 #[.pointer (some ⟨g,0,none⟩),.slice a_t text.length c_t] 43 rfl kj kj ((Qqx g k2 c2 h1 text fs es _ _ th tr tc tq _ hk2l hc2l hh1l hh1b (zaT q9 r3_8 hnh) (zaT q9 r2_8 hnr) (zaT q9 r4_8 hnc) (zaT q9 r5_8 hnq) hnh hnr hnc hnq r1_9 hfb lfs (by omega) (hst _ x9)).mono (by rintro e w' ⟨u,rfl,h1,h2,h3⟩; exact ⟨_,rfl,u,rfl,h1,h2,h3⟩)) fun v W10 h19=>?_
  obtain ⟨u19_,rfl,hu19_,q10,r1_10⟩:=h19
  obtain ⟨a19_,c19_,rfl,-⟩:=id (zaY hu19_)
  refine sg 5 kj <| sgN hK18 <| wp_seq_k fun K20 hK20=>sgB kj <| cond_false kj <| wp_skip <| hK20 _ _ <| sgC fun K22 hK22=>sg 1 kj <| Qaw (fun v W'=>v=.tuple #[]∧ExtB g W10 W'∧W'.heap[g]? = some (.cells (HR k2 true 1 c2 (dig (h1++fs)) begins sk pk peer 2 (zae 32 0) theirs) 76)) 49 #[.pointer (some ⟨g,0,none⟩)] 50 rfl kj kj ((QiI g k2 c2 (dig (h1++fs)) sk pk peer e theirs true begins 1 _ hk2l hc2l (QaV _) hskl hpkl hpel hel hthl r1_10).mono (by intro e w' h; exact ⟨_,h.1,rfl,h.2.1,h.2.2⟩)) fun v W11 h23=>?_
  obtain ⟨rfl,q11,r1_11⟩:=h23
  have x11:=zaV (zaV x9 q10) q11
  refine sgN hK22 <| sgC fun K24 hK24=>sg 2 kj <| Bx.seq_appendF (T:=5) 1 (.tmp 51) (.tmp 52) 24 rfl kj kj (by decide) 53 rfl kj (g:=g10) (off:=0) (n:=32) (xs:=pubL e) (ys:=fs) kj kj (Qat e) (Qkm (zaT q11 (zaT q10 (zaT q9 (Qaa (zaT q7 r10_6 (Qap r1_3 l10)) e8) (Qap r1_3 l10)) (Qap r1_3 l10)) (Qap r1_3 l10)) (Qat e)) (zaY (QcY hu19_ q11 (Qei hu19_ (Qa7 r1_9)))) (by rw [Qat,lfs]; omega) (by omega) fun ap W12 fap e12=>?_
  refine sg 2 kj <| sgN hK24 <| wp_ret ?_
  exact (show bodyPost _ _ _ .ret _ _ from ret2 (ap) (.nilIface) rfl (Qa4 kj) (Qa4 kj) ⟨ap,rfl,zaX x11.2.2.2.1 fap,(zaS x11 e12),(Qaa r1_11 e12)⟩)
end No
end
section
namespace No
open Go Go.RowKit
open Rely Auto Own Sha
open Cha
open Ae hiding run_storeQ
open Ll hiding run_storeQ
open Ci Wk
open Field (Qav pubL agN Qat Qbc QaE Qbk)
theorem Ql8 {k : IntKind} {B n c l:Nat} {ys tk:List Int} {a:Option Addr} {W:World} (et:ys.take l=tk) (h:RdK k B ys (.slice a n c) W) (hl:l≤ys.length):RdK k B tk (.slice a l c) W:=et▸Bx.rdK_to h hl
theorem Qid {k : IntKind} {B n c l:Nat} {ys tk:List Int} {a:Option Addr} {W:World} (et:ys.drop l=tk) (h:RdK k B ys (.slice a n c) W) (hl:l≤ys.length):RdK k B tk (.slice (Bx.restA a l c) (n-l) (c-l)) W:=et▸Bx.rdK_rest' h hl
set_option maxRecDepth 100000 in
theorem Qqe (g : Nat) (key chain hash sk pk peer mine theirs:List Int) (has begins:Bool) (num:Int) (te text h1 k1 c1 k2 c2 fs bx:List Int) (tc tq th tr:TypeId) (w:World) (hkl:key.length=32) (hcl:chain.length=32) (hhl:hash.length=32) (hskl:sk.length=32) (hpkl:pk.length=32) (hpel:peer.length=32) (hmil:mine.length=32) (hthl:theirs.length=32) (hcb:Qaf chain) (hhb:Qaf hash) (hskb:Qaf sk) (hpkb:Qaf pk) (hpeb:Qaf peer) (hmib:Qaf mine) (hthb:Qaf theirs) (htel:te.length=32) (hteb:Qaf te) (ha0:(agN sk te==0)=false) (ha1:(agN sk peer==0)=false)
    (eh1:h1=dig (hash++te)) (ec1:c1=twA (hmac chain (Qav (agN sk te)))) (ek1:k1=twB (hmac chain (Qav (agN sk te)))) (ec2:c2=twA (hmac c1 (Qav (agN sk peer)))) (ek2:k2=twB (hmac c1 (Qav (agN sk peer)))) (es:Qc0 k2 (nonV 0) h1 text=fs) (htb:Qaf text) (htl:text.length≤1024) (ebx:bx=te++fs) (v:Value) (hst:∀ W,ExtB g w W→RdK .u8 W.heap.size bx v W) (hT:Tabs tc tq th tr w) (hnc:1≠g) (hnq:0≠g) (hnh:2≠g) (hnr:3≠g) (hg:w.heap[g]? = some (.cells (HR key has num chain hash begins sk pk peer 0 mine theirs) 76)) :
    Calls Tryz.prog 34 #[.pointer (some ⟨g,0,none⟩),v] w (fun x W=>∃ u,x=.returned (.tuple #[u,.nilIface])∧OwnN .u8 5 w.heap.size text u W∧ExtB g w W∧W.heap[g]? = some (.cells (HR k2 true 1 c2 (dig (h1++fs)) begins sk pk peer 1 mine te) 76)):=by
  obtain ⟨a_b,c_b,rfl,-⟩:=id (hst _ (zaR g w))
  have hh1l:h1.length=32:=by rw [eh1]; exact QaV _
  have hh1b:Qaf h1:=by rw [eh1]; exact Qbo _
  have hk2l:k2.length=32:=by rw [ek2]; exact QaN _
  have hc2l:c2.length=32:=by rw [ec2]; exact QaJ _
  have lfs:fs.length=text.length+16:=by rw [←es]; exact QbR _ _ _ _
  have hfb:Qaf fs:=by rw [←es]; exact Qdw _ _ _ _
  have lbx:bx.length=text.length+48:=by rw [ebx,zap,htel,lfs]; omega
  have h32:32≤bx.length:=by omega
  have cbk:=Bx.rdK_cap (hst _ (zaR g w))
  have et4:bx.take 32=te:=by rw [ebx]; exact za4 htel
  have et5:bx.drop 32=fs:=by rw [ebx]; exact za5 htel
  have hc4:=hT.c
  have hq4:=hT.q
  have hh4:=hT.h
  have hr4:=hT.r
  refine enter 55 [(0,.pointer (some ⟨g,0,none⟩)),(1,.slice a_b bx.length c_b)] Tryz.func34 rfl rfl kj rfl <| sgB kj <| sgC fun K7 hK7=>sg 2 kj <| Qac (.slice a_b 32 c_b) 11 rfl kj (Bx.run_to 24 _ _ 32 bx.length c_b a_b 5 rfl kj kj kj .i64 kj (qT h32 cbk) _) ?_
  obtain ⟨gb,ob,hab,-,-,hcb_⟩:=QfD (Ql8 et4 (hst _ (zaS (zaR g w) (zaM w))) h32) (by rw [htel]; decide)
  refine Qac (.pointer (some ⟨gb,ob,none⟩)) 12 rfl kj (by rw [←hab]; exact Ae.run_sap 23 _ 32 5 (a:=a_b) (len:=32) (cap:=c_b) rfl kj kj (qR _)) ?_
  refine Qac (.agg (ints .u8 (te))) 13 rfl kj (Bx.load_cells 23 _ gb ob 32 te htel (by decide) (fun j hj=>hcb_ j (by rw [htel]; exact hj)) rfl kj kj kj) ?_
  refine sg 2 kj ?_
  have xb0:=zaS (zaR g w) (zaM w)
  refine Qai g _ (HR key has num chain hash begins sk pk peer 0 mine te) 76 hg rfl kj (Qbm 23 _ _ g 228 76 [ints .u8 (key),#[.bool has],#[.int .i64 num],ints .u8 (chain),ints .u8 (hash),#[.bool begins],ints .u8 (sk),ints .u8 (pk),ints .u8 (peer),#[.int .i64 0],ints .u8 (mine)] [ints .u8 (theirs)] [ints .u8 (te)] [] hg rfl kj kj (isz (n:=32) kj (izT htel)) (by (try unfold HR); rw [Qab,Qab,Qab,Qab,Qab,Qab,Qab,Qab,Qab,Qab,Qab]; simp only [qS,cat,(izT hcl),(izT hhl),(izT hkl),(izT hmil),(izT hpel),(izT hpkl),(izT hskl)]; rfl) (eqsz (n:=32) (izT htel) (izT hthl)) (ints_one _ _)) fun W1 p1 r1_1=>?_
  have x1:=ExtB.puts xb0 p1
  refine sgN hK7 <| wp_seq_k fun K8 hK8=>Qba 8 [⟨none,[(0,none)]⟩,⟨none,[(16,some 0)]⟩,⟨none,[(17,some 1)]⟩,⟨none,[(0,none)]⟩,⟨none,[(19,some 3)]⟩,⟨none,[(20,some 4)]⟩,⟨none,[(21,some 5)]⟩,⟨none,[(22,some 6)]⟩] kj kj fun F hF=>Qa6 (Qar _) (.pointer (some ⟨g,0,none⟩)) kj kj (fun _=>kj) <| Qa6 (Qar _) (.pointer (some ⟨g,0,none⟩)) kj kj (fun _=>kj) <| Qa6 (Qar _) (.pointer (some ⟨g,0,none⟩)) kj kj (fun _=>kj) <| Qa6 (Qar _) (.pointer (some ⟨g,0,none⟩)) kj kj (fun _=>kj) <| Qa6 (Qar _) (.pointer (some ⟨g,0,none⟩)) kj kj (fun _=>kj) <| Qa6 (Qar _) (.pointer (some ⟨g,228,none⟩)) kj kj (fun _=>kj) <| Qa6 (Qar _) (.slice (some ⟨g,228,none⟩) 32 32) kj kj (fun _=>kj) ?_
  refine QeL (Qar _) (#[.slice (some ⟨g,228,none⟩) 32 32]) 24 1 (zaW _ _ _ _) kj kj (fun _=>kj) <| Qdr (hF _ fun W2 e2=>?_)
  simp only [zag,zah,zar,zas,zat,zau,finE,up]
  intro vv9 hv9
  clear hF
  obtain ⟨g9,rfl,l9,r9_2⟩:=hv9
  have b9:=qT x1.2.2.2.1 l9
  have r1_2:=(Qaa r1_1 e2)
  have hps10:∀ p∈([(.slice (some ⟨g,228,none⟩) 32 32,te)]:List (Value×List Int)),RdK .u8 W2.heap.size p.2 p.1 W2∧Qaf p.2:=by
    intro p hp
    simp only [zai,zaj,or_false] at hp
    rcases hp with rfl
    · exact ⟨zaZ (QdZ 228 htel r1_2 (fun i hi=>QdF [ints .u8 (key),#[.bool has],#[.int .i64 num],ints .u8 (chain),ints .u8 (hash),#[.bool begins],ints .u8 (sk),ints .u8 (pk),ints .u8 (peer),#[.int .i64 0],ints .u8 (mine)] [] te 228 i (228+i) (by (try unfold HR); rw [Qab,Qab,Qab,Qab,Qab,Qab,Qab,Qab,Qab,Qab,Qab]; simp only [qS,cat,(izT hcl),(izT hhl),(izT hkl),(izT hmil),(izT hpel),(izT hpkl),(izT hskl)]; rfl) rfl (by rw [htel]; exact hi)) (Qa7 r1_2) (qR _) (by decide)),hteb⟩
  have r4_2:=(Qaa (zaO p1 hc4 hnc) e2)
  have r5_2:=(Qaa (zaO p1 hq4 hnq) e2)
  have hmx10:=QcZ g (key) (chain) (hash) has num g9 1 _ ([(.slice (some ⟨g,228,none⟩) 32 32,te)]:List (Value×List Int)) rfl (by decide) tc tq W2 hkl hcl hhl hhb r4_2 r5_2 r1_2 r9_2 hps10 (by simp only [zak,zal,zam,zan,zao,zap,htel]; omega)
  rw [show ((zaq Prod.snd ([(.slice (some ⟨g,228,none⟩) 32 32,te)]:List (Value×List Int))).flatten)=te by simp only [zak,zal,zam,zan,zao]] at hmx10
  refine Qaw (fun v W'=>v=.tuple #[]∧ExtB g W2 W'∧W'.heap[g]? = some (.cells (HR key has num chain (dig (hash++te)) begins sk pk peer 0 mine te) 76)) 28 #[.pointer (some ⟨g,0,none⟩),.slice (some ⟨g9,0,none⟩) 1 1] 24 rfl kj kj (hmx10.mono fun e w' h=>⟨_,h.1,rfl,h.2⟩) fun v W3 h10=>?_
  obtain ⟨rfl,q3,r1_3⟩:=h10
  rw [←eh1] at r1_3
  refine sgN hK8 <| wp_seq_k fun K11 hK11=>wp_seq_k fun K12 hK12=>QaQ 11 [⟨none,[(0,none)]⟩,⟨none,[(0,none)]⟩,⟨none,[(26,some 1)]⟩,⟨none,[(27,some 2)]⟩,⟨none,[(28,some 3)]⟩,⟨none,[(29,some 4)]⟩,⟨none,[(0,none)]⟩,⟨none,[(31,some 6)]⟩,⟨none,[(32,some 7)]⟩,⟨none,[(33,some 8)]⟩,⟨none,[(30,some 5),(34,some 9)]⟩] kj kj fun F hF=>Qal (.pointer (some ⟨g,0,none⟩)) kj kj (fun _=>kj) <| Qal (.pointer (some ⟨g,0,none⟩)) kj kj (fun _=>kj) <| Qal (.pointer (some ⟨g,0,none⟩)) kj kj (fun _=>kj) <| Qal (.pointer (some ⟨g,99,none⟩)) kj kj (fun _=>kj) <| Qal (.pointer (some ⟨g,99,none⟩)) kj kj (fun _=>kj) <| Qax (.agg (ints .u8 (sk))) kj kj (fun W hR=>(Qan 23 _ g 99 76 _ _ _ (Qaa (Qaa r1_3 (Qah _)) hR) rfl kj (Qaq [ints .u8 (key),#[.bool has],#[.int .i64 num],ints .u8 (chain),ints .u8 (h1),#[.bool begins]] [ints .u8 (sk)] [ints .u8 (pk),ints .u8 (peer),#[.int .i64 0],ints .u8 (mine),ints .u8 (te)] 99 (by rw [Qab,Qab,Qab,Qab,Qab,Qab]; simp only [qS,cat,(izT hcl),(izT hh1l),(izT hkl)]; rfl)) kj (isz (n:=32) kj (izT hskl)))) ?_
  refine Qal (.pointer (some ⟨g,0,none⟩)) kj kj (fun _=>kj) <| Qal (.pointer (some ⟨g,0,none⟩)) kj kj (fun _=>kj) <| Qal (.pointer (some ⟨g,228,none⟩)) kj kj (fun _=>kj) <| Qax (.agg (ints .u8 (te))) kj kj (fun W hR=>(Qan 23 _ g 228 76 _ _ _ (Qaa (Qaa r1_3 (Qah _)) hR) rfl kj (Qaq [ints .u8 (key),#[.bool has],#[.int .i64 num],ints .u8 (chain),ints .u8 (h1),#[.bool begins],ints .u8 (sk),ints .u8 (pk),ints .u8 (peer),#[.int .i64 0],ints .u8 (mine)] [ints .u8 (te)] [] 228 (by (try unfold HR); rw [Qab,Qab,Qab,Qab,Qab,Qab,Qab,Qab,Qab,Qab,Qab]; simp only [qS,cat,(izT hcl),(izT hh1l),(izT hkl),(izT hmil),(izT hpel),(izT hpkl),(izT hskl)]; rfl)) kj (isz (n:=32) kj (izT htel)))) ?_
  refine Qal (.agg (cat [ints .u8 (sk),ints .u8 (te)])) kj kj (fun W=>(Qbk 33 _ (.agg (cat [ints .u8 (zae 32 0),ints .u8 (zae 32 0)])) #[(0,32),(32,32)] [(0,32,.agg (ints .u8 (sk)),ints .u8 (sk)),(1,32,.agg (ints .u8 (te)),ints .u8 (te))] rfl kj ⟨kj,rfl,(izT hskl),kj,rfl,(izT htel),trivial⟩ kj kj kj kj)) <| QaH (hF _ kj fun W4 e4=>?_)
  simp only [ups,up,Kn.val,zar,zas,zat,zau,zag,zah]
  clear hF
  have r4_4:=(Qaa (zaT q3 r4_2 hnc) e4)
  have r5_4:=(Qaa (zaT q3 r5_2 hnq) e4)
  have r3_4:=(Qaa (zaT q3 (Qaa (zaO p1 hh4 hnh) e2) hnh) e4)
  have r2_4:=(Qaa (zaT q3 (Qaa (zaO p1 hr4 hnr) e2) hnr) e4)
  refine Qaw (fun v W'=>v=.nilIface∧ExtB g W4 W'∧W'.heap[g]? = some (.cells (HR k2 true 0 c2 h1 begins sk pk peer 0 mine te) 76)) 47 #[.pointer (some ⟨g,0,none⟩),.agg (cat [ints .u8 (sk),ints .u8 (te)])] 36 rfl kj kj ((agree_0 g key chain h1 sk pk peer mine te has begins num sk te k1 c1 k2 c2 tc tq th tr _ hkl hcl hh1l hskl hpkl hpel hmil htel hcb hh1b hskb hpkb hpeb hmib hteb hskl hskb htel hteb ha0 ha1 ec1 ek1 ec2 ek2 ⟨r4_4,r5_4,r3_4,r2_4⟩ hnc hnq hnh hnr (Qaa r1_3 e4)).mono (by intro e w' h; exact ⟨_,h.1,rfl,h.2.1,h.2.2⟩)) fun v W5 h13=>?_
  obtain ⟨rfl,q5,r1_5⟩:=h13
  refine sg 1 kj <| sgN hK12 <| sgB kj <| cond_false kj <| wp_skip <| hK11 _ _ <| wp_seq_k fun K15 hK15=>QdY kj fun W6 e6=>?_
  have x6:=zaS (zaV (zaS (zaV (zaS x1 e2) q3) e4) q5) e6
  refine Qbl 0 (.pointer (some ⟨g,0,none⟩)) 41 rfl rfl kj kj (fun _ _ _ h=>h) (fun _=>kj) <| Qbl 1 (.pointer (some ⟨g,0,none⟩)) 42 rfl rfl kj kj (fun _ _ _ h=>h) (fun _=>kj) <| Qbl 2 (.pointer (some ⟨g,0,none⟩)) 43 rfl rfl kj kj (fun _ _ _ h=>h) (fun _=>kj) <| Qbl 3 (.slice a_b bx.length c_b) 44 rfl rfl kj kj (fun _ _ _ h=>h) (fun _=>kj) <| Qbl 4 (.slice (Bx.restA a_b 32 c_b) (bx.length-32) (c_b-32)) 45 rfl rfl kj kj (fun _ _ _ h=>h) (fun W=>(Bx.run_rest 24 _ _ 32 bx.length c_b a_b 5 rfl kj kj kj .i64 kj h32 cbk _)) ?_
  have r1_6:=(Qaa r1_5 e6)
  refine QfT 5 rfl kj (fun v W'=>∃ u,v=.tuple #[u,.nilIface]∧OwnN .u8 5 W6.heap.size (text) u W'∧ExtB g W6 W'∧W'.heap[g]? = some (.cells (HR k2 true 1 c2 (dig (h1++fs)) begins sk pk peer 0 mine te) 76)) 53 #[.pointer (some ⟨g,0,none⟩),.slice (Bx.restA a_b 32 c_b) (bx.length-32) (c_b-32)] 46 rfl kj kj ((QpW g k2 c2 h1 text fs es _ th tr tc tq _ hk2l hc2l hh1l hh1b (Qaa (zaT q5 r3_4 hnh) e6) (Qaa (zaT q5 r2_4 hnr) e6) (Qaa (zaT q5 r4_4 hnc) e6) (Qaa (zaT q5 r5_4 hnq) e6) hnh hnr hnc hnq r1_6 hfb lfs htb (by omega) (fun W x=>Qid et5 (hst _ (zaV x6 x)) h32)).mono (by rintro e w' ⟨u,rfl,h1,h2,h3⟩; exact ⟨_,rfl,u,rfl,h1,h2,h3⟩)) fun v W7 h16=>?_
  obtain ⟨u16_,rfl,hu16_,q7,r1_7⟩:=h16
  obtain ⟨a16_,c16_,rfl,-⟩:=id (zaY hu16_)
  refine Qbl 6 (.tuple #[.slice a16_ ((text).length) c16_,.nilIface]) 40 rfl rfl kj kj (fun _ _ _ h=>h) (fun _=>kj) <| Qbl 7 (.slice a16_ ((text).length) c16_) 47 rfl rfl kj kj (fun _ _ _ h=>h) (fun _=>kj) <| Qbl 8 (.nilIface) 48 rfl rfl kj kj (fun _ _ _ h=>h) (fun _=>kj) <| Qbl 9 (.slice a16_ ((text).length) c16_) 7 rfl rfl kj kj (fun _ _ _ h=>h) (fun _=>kj) <| Qbl 10 (.nilIface) 8 rfl rfl kj kj (fun _ _ _ h=>h) (fun _=>kj) <| QjA kj <| hK15 _ _ <| wp_seq_k fun K17 hK17=>sgB kj <| cond_false kj ?_
  refine wp_skip <| hK17 _ _ <| sgC fun K19 hK19=>sg 1 kj <| Qaw (fun v W'=>v=.tuple #[]∧ExtB g W7 W'∧W'.heap[g]? = some (.cells (HR k2 true 1 c2 (dig (h1++fs)) begins sk pk peer 1 mine te) 76)) 49 #[.pointer (some ⟨g,0,none⟩)] 53 rfl kj kj ((QiJ g k2 c2 (dig (h1++fs)) sk pk peer mine te true begins 1 _ hk2l hc2l (QaV _) hskl hpkl hpel hmil htel r1_7).mono (by intro e w' h; exact ⟨_,h.1,rfl,h.2.1,h.2.2⟩)) fun v W8 h20=>?_
  obtain ⟨rfl,q8,r1_8⟩:=h20
  refine sgN hK19 <| sgB kj <| wp_ret ?_
  exact (show bodyPost _ _ _ .ret _ _ from ret2 (.slice a16_ ((text).length) c16_) (.nilIface) rfl (Qa4 kj) (Qa4 kj) ⟨_,rfl,zaX x6.2.2.2.1 (QcY hu16_ q8 (Qei hu16_ (Qa7 r1_6))),(zaV (zaV x6 q7) q8),r1_8⟩)
set_option maxRecDepth 100000 in
theorem Qqd (g : Nat) (key chain hash sk pk peer mine theirs:List Int) (has begins:Bool) (num:Int) (te text h1 k1 c1 k2 c2 fs bx:List Int) (tc tq th tr:TypeId) (w:World) (hkl:key.length=32) (hcl:chain.length=32) (hhl:hash.length=32) (hskl:sk.length=32) (hpkl:pk.length=32) (hpel:peer.length=32) (hmil:mine.length=32) (hthl:theirs.length=32) (hcb:Qaf chain) (hhb:Qaf hash) (hskb:Qaf sk) (hpkb:Qaf pk) (hpeb:Qaf peer) (hmib:Qaf mine) (hthb:Qaf theirs) (htel:te.length=32) (hteb:Qaf te) (ha0:(agN sk te==0)=false) (ha1:(agN mine te==0)=false)
    (eh1:h1=dig (hash++te)) (ec1:c1=twA (hmac chain (Qav (agN mine te)))) (ek1:k1=twB (hmac chain (Qav (agN mine te)))) (ec2:c2=twA (hmac c1 (Qav (agN sk te)))) (ek2:k2=twB (hmac c1 (Qav (agN sk te)))) (es:Qc0 k2 (nonV 0) h1 text=fs) (htb:Qaf text) (htl:text.length≤1024) (ebx:bx=te++fs) (v:Value) (hst:∀ W,ExtB g w W→RdK .u8 W.heap.size bx v W) (hT:Tabs tc tq th tr w) (hnc:1≠g) (hnq:0≠g) (hnh:2≠g) (hnr:3≠g) (hg:w.heap[g]? = some (.cells (HR key has num chain hash begins sk pk peer 1 mine theirs) 76)) :
    Calls Tryz.prog 34 #[.pointer (some ⟨g,0,none⟩),v] w (fun x W=>∃ u,x=.returned (.tuple #[u,.nilIface])∧OwnN .u8 5 w.heap.size text u W∧ExtB g w W∧W.heap[g]? = some (.cells (HR k2 true 1 c2 (dig (h1++fs)) begins sk pk peer 2 (zae 32 0) te) 76)):=by
  obtain ⟨a_b,c_b,rfl,-⟩:=id (hst _ (zaR g w))
  have hh1l:h1.length=32:=by rw [eh1]; exact QaV _
  have hh1b:Qaf h1:=by rw [eh1]; exact Qbo _
  have hk2l:k2.length=32:=by rw [ek2]; exact QaN _
  have hc2l:c2.length=32:=by rw [ec2]; exact QaJ _
  have lfs:fs.length=text.length+16:=by rw [←es]; exact QbR _ _ _ _
  have hfb:Qaf fs:=by rw [←es]; exact Qdw _ _ _ _
  have lbx:bx.length=text.length+48:=by rw [ebx,zap,htel,lfs]; omega
  have h32:32≤bx.length:=by omega
  have cbk:=Bx.rdK_cap (hst _ (zaR g w))
  have et4:bx.take 32=te:=by rw [ebx]; exact za4 htel
  have et5:bx.drop 32=fs:=by rw [ebx]; exact za5 htel
  have hc4:=hT.c
  have hq4:=hT.q
  have hh4:=hT.h
  have hr4:=hT.r
  refine enter 55 [(0,.pointer (some ⟨g,0,none⟩)),(1,.slice a_b bx.length c_b)] Tryz.func34 rfl rfl kj rfl <| sgB kj <| sgC fun K7 hK7=>sg 2 kj <| Qac (.slice a_b 32 c_b) 11 rfl kj (Bx.run_to 24 _ _ 32 bx.length c_b a_b 5 rfl kj kj kj .i64 kj (qT h32 cbk) _) ?_
  obtain ⟨gb,ob,hab,-,-,hcb_⟩:=QfD (Ql8 et4 (hst _ (zaS (zaR g w) (zaM w))) h32) (by rw [htel]; decide)
  refine Qac (.pointer (some ⟨gb,ob,none⟩)) 12 rfl kj (by rw [←hab]; exact Ae.run_sap 23 _ 32 5 (a:=a_b) (len:=32) (cap:=c_b) rfl kj kj (qR _)) ?_
  refine Qac (.agg (ints .u8 (te))) 13 rfl kj (Bx.load_cells 23 _ gb ob 32 te htel (by decide) (fun j hj=>hcb_ j (by rw [htel]; exact hj)) rfl kj kj kj) ?_
  refine sg 2 kj ?_
  have xb0:=zaS (zaR g w) (zaM w)
  refine Qai g _ (HR key has num chain hash begins sk pk peer 1 mine te) 76 hg rfl kj (Qbm 23 _ _ g 228 76 [ints .u8 (key),#[.bool has],#[.int .i64 num],ints .u8 (chain),ints .u8 (hash),#[.bool begins],ints .u8 (sk),ints .u8 (pk),ints .u8 (peer),#[.int .i64 1],ints .u8 (mine)] [ints .u8 (theirs)] [ints .u8 (te)] [] hg rfl kj kj (isz (n:=32) kj (izT htel)) (by (try unfold HR); rw [Qab,Qab,Qab,Qab,Qab,Qab,Qab,Qab,Qab,Qab,Qab]; simp only [qS,cat,(izT hcl),(izT hhl),(izT hkl),(izT hmil),(izT hpel),(izT hpkl),(izT hskl)]; rfl) (eqsz (n:=32) (izT htel) (izT hthl)) (ints_one _ _)) fun W1 p1 r1_1=>?_
  have x1:=ExtB.puts xb0 p1
  refine sgN hK7 <| wp_seq_k fun K8 hK8=>Qba 8 [⟨none,[(0,none)]⟩,⟨none,[(16,some 0)]⟩,⟨none,[(17,some 1)]⟩,⟨none,[(0,none)]⟩,⟨none,[(19,some 3)]⟩,⟨none,[(20,some 4)]⟩,⟨none,[(21,some 5)]⟩,⟨none,[(22,some 6)]⟩] kj kj fun F hF=>Qa6 (Qar _) (.pointer (some ⟨g,0,none⟩)) kj kj (fun _=>kj) <| Qa6 (Qar _) (.pointer (some ⟨g,0,none⟩)) kj kj (fun _=>kj) <| Qa6 (Qar _) (.pointer (some ⟨g,0,none⟩)) kj kj (fun _=>kj) <| Qa6 (Qar _) (.pointer (some ⟨g,0,none⟩)) kj kj (fun _=>kj) <| Qa6 (Qar _) (.pointer (some ⟨g,0,none⟩)) kj kj (fun _=>kj) <| Qa6 (Qar _) (.pointer (some ⟨g,228,none⟩)) kj kj (fun _=>kj) <| Qa6 (Qar _) (.slice (some ⟨g,228,none⟩) 32 32) kj kj (fun _=>kj) ?_
  refine QeL (Qar _) (#[.slice (some ⟨g,228,none⟩) 32 32]) 24 1 (zaW _ _ _ _) kj kj (fun _=>kj) <| Qdr (hF _ fun W2 e2=>?_)
  simp only [zag,zah,zar,zas,zat,zau,finE,up]
  intro vv9 hv9
  clear hF
  obtain ⟨g9,rfl,l9,r9_2⟩:=hv9
  have b9:=qT x1.2.2.2.1 l9
  have r1_2:=(Qaa r1_1 e2)
  have hps10:∀ p∈([(.slice (some ⟨g,228,none⟩) 32 32,te)]:List (Value×List Int)),RdK .u8 W2.heap.size p.2 p.1 W2∧Qaf p.2:=by
    intro p hp
    simp only [zai,zaj,or_false] at hp
    rcases hp with rfl
    · exact ⟨zaZ (QdZ 228 htel r1_2 (fun i hi=>QdF [ints .u8 (key),#[.bool has],#[.int .i64 num],ints .u8 (chain),ints .u8 (hash),#[.bool begins],ints .u8 (sk),ints .u8 (pk),ints .u8 (peer),#[.int .i64 1],ints .u8 (mine)] [] te 228 i (228+i) (by (try unfold HR); rw [Qab,Qab,Qab,Qab,Qab,Qab,Qab,Qab,Qab,Qab,Qab]; simp only [qS,cat,(izT hcl),(izT hhl),(izT hkl),(izT hmil),(izT hpel),(izT hpkl),(izT hskl)]; rfl) rfl (by rw [htel]; exact hi)) (Qa7 r1_2) (qR _) (by decide)),hteb⟩
  have r4_2:=(Qaa (zaO p1 hc4 hnc) e2)
  have r5_2:=(Qaa (zaO p1 hq4 hnq) e2)
  have hmx10:=QcZ g (key) (chain) (hash) has num g9 1 _ ([(.slice (some ⟨g,228,none⟩) 32 32,te)]:List (Value×List Int)) rfl (by decide) tc tq W2 hkl hcl hhl hhb r4_2 r5_2 r1_2 r9_2 hps10 (by simp only [zak,zal,zam,zan,zao,zap,htel]; omega)
  rw [show ((zaq Prod.snd ([(.slice (some ⟨g,228,none⟩) 32 32,te)]:List (Value×List Int))).flatten)=te by simp only [zak,zal,zam,zan,zao]] at hmx10
  refine Qaw (fun v W'=>v=.tuple #[]∧ExtB g W2 W'∧W'.heap[g]? = some (.cells (HR key has num chain (dig (hash++te)) begins sk pk peer 1 mine te) 76)) 28 #[.pointer (some ⟨g,0,none⟩),.slice (some ⟨g9,0,none⟩) 1 1] 24 rfl kj kj (hmx10.mono fun e w' h=>⟨_,h.1,rfl,h.2⟩) fun v W3 h10=>?_
  obtain ⟨rfl,q3,r1_3⟩:=h10
  rw [←eh1] at r1_3
  refine sgN hK8 <| wp_seq_k fun K11 hK11=>wp_seq_k fun K12 hK12=>QaQ 11 [⟨none,[(0,none)]⟩,⟨none,[(0,none)]⟩,⟨none,[(26,some 1)]⟩,⟨none,[(27,some 2)]⟩,⟨none,[(28,some 3)]⟩,⟨none,[(29,some 4)]⟩,⟨none,[(0,none)]⟩,⟨none,[(31,some 6)]⟩,⟨none,[(32,some 7)]⟩,⟨none,[(33,some 8)]⟩,⟨none,[(30,some 5),(34,some 9)]⟩] kj kj fun F hF=>Qal (.pointer (some ⟨g,0,none⟩)) kj kj (fun _=>kj) <| Qal (.pointer (some ⟨g,0,none⟩)) kj kj (fun _=>kj) <| Qal (.pointer (some ⟨g,0,none⟩)) kj kj (fun _=>kj) <| Qal (.pointer (some ⟨g,99,none⟩)) kj kj (fun _=>kj) <| Qal (.pointer (some ⟨g,99,none⟩)) kj kj (fun _=>kj) <| Qax (.agg (ints .u8 (sk))) kj kj (fun W hR=>(Qan 23 _ g 99 76 _ _ _ (Qaa (Qaa r1_3 (Qah _)) hR) rfl kj (Qaq [ints .u8 (key),#[.bool has],#[.int .i64 num],ints .u8 (chain),ints .u8 (h1),#[.bool begins]] [ints .u8 (sk)] [ints .u8 (pk),ints .u8 (peer),#[.int .i64 1],ints .u8 (mine),ints .u8 (te)] 99 (by rw [Qab,Qab,Qab,Qab,Qab,Qab]; simp only [qS,cat,(izT hcl),(izT hh1l),(izT hkl)]; rfl)) kj (isz (n:=32) kj (izT hskl)))) ?_
  refine Qal (.pointer (some ⟨g,0,none⟩)) kj kj (fun _=>kj) <| Qal (.pointer (some ⟨g,0,none⟩)) kj kj (fun _=>kj) <| Qal (.pointer (some ⟨g,228,none⟩)) kj kj (fun _=>kj) <| Qax (.agg (ints .u8 (te))) kj kj (fun W hR=>(Qan 23 _ g 228 76 _ _ _ (Qaa (Qaa r1_3 (Qah _)) hR) rfl kj (Qaq [ints .u8 (key),#[.bool has],#[.int .i64 num],ints .u8 (chain),ints .u8 (h1),#[.bool begins],ints .u8 (sk),ints .u8 (pk),ints .u8 (peer),#[.int .i64 1],ints .u8 (mine)] [ints .u8 (te)] [] 228 (by (try unfold HR); rw [Qab,Qab,Qab,Qab,Qab,Qab,Qab,Qab,Qab,Qab,Qab]; simp only [qS,cat,(izT hcl),(izT hh1l),(izT hkl),(izT hmil),(izT hpel),(izT hpkl),(izT hskl)]; rfl)) kj (isz (n:=32) kj (izT htel)))) ?_
  refine Qal (.agg (cat [ints .u8 (sk),ints .u8 (te)])) kj kj (fun W=>(Qbk 33 _ (.agg (cat [ints .u8 (zae 32 0),ints .u8 (zae 32 0)])) #[(0,32),(32,32)] [(0,32,.agg (ints .u8 (sk)),ints .u8 (sk)),(1,32,.agg (ints .u8 (te)),ints .u8 (te))] rfl kj ⟨kj,rfl,(izT hskl),kj,rfl,(izT htel),trivial⟩ kj kj kj kj)) <| QaH (hF _ kj fun W4 e4=>?_)
  simp only [ups,up,Kn.val,zar,zas,zat,zau,zag,zah]
  clear hF
  have r4_4:=(Qaa (zaT q3 r4_2 hnc) e4)
  have r5_4:=(Qaa (zaT q3 r5_2 hnq) e4)
  have r3_4:=(Qaa (zaT q3 (Qaa (zaO p1 hh4 hnh) e2) hnh) e4)
  have r2_4:=(Qaa (zaT q3 (Qaa (zaO p1 hr4 hnr) e2) hnr) e4)
  refine Qaw (fun v W'=>v=.nilIface∧ExtB g W4 W'∧W'.heap[g]? = some (.cells (HR k2 true 0 c2 h1 begins sk pk peer 1 mine te) 76)) 47 #[.pointer (some ⟨g,0,none⟩),.agg (cat [ints .u8 (sk),ints .u8 (te)])] 36 rfl kj kj ((QmI g key chain h1 sk pk peer mine te has begins num sk te k1 c1 k2 c2 tc tq th tr _ hkl hcl hh1l hskl hpkl hpel hmil htel hcb hh1b hskb hpkb hpeb hmib hteb hskl hskb htel hteb ha0 ha1 ec1 ek1 ec2 ek2 ⟨r4_4,r5_4,r3_4,r2_4⟩ hnc hnq hnh hnr (Qaa r1_3 e4)).mono (by intro e w' h; exact ⟨_,h.1,rfl,h.2.1,h.2.2⟩)) fun v W5 h13=>?_
  obtain ⟨rfl,q5,r1_5⟩:=h13
  refine sg 1 kj <| sgN hK12 <| sgB kj <| cond_false kj <| wp_skip <| hK11 _ _ <| wp_seq_k fun K15 hK15=>QdY kj fun W6 e6=>?_
  have x6:=zaS (zaV (zaS (zaV (zaS x1 e2) q3) e4) q5) e6
  refine Qbl 0 (.pointer (some ⟨g,0,none⟩)) 41 rfl rfl kj kj (fun _ _ _ h=>h) (fun _=>kj) <| Qbl 1 (.pointer (some ⟨g,0,none⟩)) 42 rfl rfl kj kj (fun _ _ _ h=>h) (fun _=>kj) <| Qbl 2 (.pointer (some ⟨g,0,none⟩)) 43 rfl rfl kj kj (fun _ _ _ h=>h) (fun _=>kj) <| Qbl 3 (.slice a_b bx.length c_b) 44 rfl rfl kj kj (fun _ _ _ h=>h) (fun _=>kj) <| Qbl 4 (.slice (Bx.restA a_b 32 c_b) (bx.length-32) (c_b-32)) 45 rfl rfl kj kj (fun _ _ _ h=>h) (fun W=>(Bx.run_rest 24 _ _ 32 bx.length c_b a_b 5 rfl kj kj kj .i64 kj h32 cbk _)) ?_
  have r1_6:=(Qaa r1_5 e6)
  refine QfT 5 rfl kj (fun v W'=>∃ u,v=.tuple #[u,.nilIface]∧OwnN .u8 5 W6.heap.size (text) u W'∧ExtB g W6 W'∧W'.heap[g]? = some (.cells (HR k2 true 1 c2 (dig (h1++fs)) begins sk pk peer 1 mine te) 76)) 53 #[.pointer (some ⟨g,0,none⟩),.slice (Bx.restA a_b 32 c_b) (bx.length-32) (c_b-32)] 46 rfl kj kj ((QpW g k2 c2 h1 text fs es _ th tr tc tq _ hk2l hc2l hh1l hh1b (Qaa (zaT q5 r3_4 hnh) e6) (Qaa (zaT q5 r2_4 hnr) e6) (Qaa (zaT q5 r4_4 hnc) e6) (Qaa (zaT q5 r5_4 hnq) e6) hnh hnr hnc hnq r1_6 hfb lfs htb (by omega) (fun W x=>Qid et5 (hst _ (zaV x6 x)) h32)).mono (by rintro e w' ⟨u,rfl,h1,h2,h3⟩; exact ⟨_,rfl,u,rfl,h1,h2,h3⟩)) fun v W7 h16=>?_
  obtain ⟨u16_,rfl,hu16_,q7,r1_7⟩:=h16
  obtain ⟨a16_,c16_,rfl,-⟩:=id (zaY hu16_)
  refine Qbl 6 (.tuple #[.slice a16_ ((text).length) c16_,.nilIface]) 40 rfl rfl kj kj (fun _ _ _ h=>h) (fun _=>kj) <| Qbl 7 (.slice a16_ ((text).length) c16_) 47 rfl rfl kj kj (fun _ _ _ h=>h) (fun _=>kj) <| Qbl 8 (.nilIface) 48 rfl rfl kj kj (fun _ _ _ h=>h) (fun _=>kj) <| Qbl 9 (.slice a16_ ((text).length) c16_) 7 rfl rfl kj kj (fun _ _ _ h=>h) (fun _=>kj) <| Qbl 10 (.nilIface) 8 rfl rfl kj kj (fun _ _ _ h=>h) (fun _=>kj) <| QjA kj <| hK15 _ _ <| wp_seq_k fun K17 hK17=>sgB kj <| cond_false kj ?_
  refine wp_skip <| hK17 _ _ <| sgC fun K19 hK19=>sg 1 kj <| Qaw (fun v W'=>v=.tuple #[]∧ExtB g W7 W'∧W'.heap[g]? = some (.cells (HR k2 true 1 c2 (dig (h1++fs)) begins sk pk peer 2 (zae 32 0) te) 76)) 49 #[.pointer (some ⟨g,0,none⟩)] 53 rfl kj kj ((QiI g k2 c2 (dig (h1++fs)) sk pk peer mine te true begins 1 _ hk2l hc2l (QaV _) hskl hpkl hpel hmil htel r1_7).mono (by intro e w' h; exact ⟨_,h.1,rfl,h.2.1,h.2.2⟩)) fun v W8 h20=>?_
  obtain ⟨rfl,q8,r1_8⟩:=h20
  refine sgN hK19 <| sgB kj <| wp_ret ?_
  exact (show bodyPost _ _ _ .ret _ _ from ret2 (.slice a16_ ((text).length) c16_) (.nilIface) rfl (Qa4 kj) (Qa4 kj) ⟨_,rfl,zaX x6.2.2.2.1 (QcY hu16_ q8 (Qei hu16_ (Qa7 r1_6))),(zaV (zaV x6 q7) q8),r1_8⟩)
end No
end
section
namespace No
open Go Go.RowKit
open Rely Auto Own Sha
open Cha
open Ae hiding run_storeQ
open Ll hiding run_storeQ
open Ci Wk
open Field (Qav pubL agN Qat Qbc QaE Qbk)
set_option maxRecDepth 100000 in
theorem QmN (g : Nat) (key chain hash sk pk peer mine theirs:List Int) (has:Bool) (num:Int) (e text h1 k1 c1 k2 c2 fs:List Int) (tc tq th tr:TypeId) (w:World) (hkl:key.length=32) (hcl:chain.length=32) (hhl:hash.length=32) (hskl:sk.length=32) (hpkl:pk.length=32) (hpel:peer.length=32) (hmil:mine.length=32) (hthl:theirs.length=32) (hcb:Qaf chain) (hhb:Qaf hash) (hskb:Qaf sk) (hpkb:Qaf pk) (hpeb:Qaf peer) (hmib:Qaf mine) (hthb:Qaf theirs) (hel:e.length=32) (heb:Qaf e) (ha0:(agN e peer==0)=false) (ha1:(agN sk peer==0)=false)
    (eh1:h1=dig (hash++pubL e)) (ec1:c1=twA (hmac chain (Qav (agN e peer)))) (ek1:k1=twB (hmac chain (Qav (agN e peer)))) (ec2:c2=twA (hmac c1 (Qav (agN sk peer)))) (ek2:k2=twB (hmac c1 (Qav (agN sk peer)))) (es:Qc0 k2 (nonV 0) h1 text=fs) (htl:text.length≤1024) (v:Value) (hst:∀ W,ExtB g w W→RdK .u8 W.heap.size text v W) (hT:Tabs tc tq th tr w) (hnc:1≠g) (hnq:0≠g) (hnh:2≠g) (hnr:3≠g) (hg:w.heap[g]? = some (.cells (HR key has num chain hash true sk pk peer 0 mine theirs) 76)) :
    Calls Tryz.prog 13 #[.pointer (some ⟨g,0,none⟩),.agg (ints .u8 e),v] w (fun x W=>∃ u,x=.returned (.tuple #[u,.nilIface])∧OwnN .u8 5 w.heap.size (pubL e++fs) u W∧ExtB g w W∧W.heap[g]? = some (.cells (HR k2 true 1 c2 (dig (h1++fs)) true sk pk peer 1 e theirs) 76)):=by
  obtain ⟨a_t,c_t,rfl,-⟩:=id (hst _ (zaR g w))
  have hk2l:k2.length=32:=by rw [ek2]; exact QaN _
  have hc2l:c2.length=32:=by rw [ec2]; exact QaJ _
  have hc4:=hT.c
  have hq4:=hT.q
  have hh4:=hT.h
  have hr4:=hT.r
  refine enter 36 [(0,.pointer (some ⟨g,0,none⟩)),(1,.agg (ints .u8 (e))),(2,.slice a_t text.length c_t)] Tryz.func13 rfl rfl kj rfl <| sgC fun K6 hK6=>Qak (ints .u8 (e)) 23 4 rfl kj kj fun g7 W1 l7 e1 r7_1=>?_
  have b7:=qT (zaM w).size l7
  refine sg 2 kj <| sgN hK6 <| wp_seq_k fun K8 hK8=>sgC fun K9 hK9=>sg 1 kj ?_
  have r1_1:=(Qaa hg e1)
  refine Qas (.bool true) 20 #[.pointer (some ⟨g,0,none⟩)] 12 rfl kj kj (Qk4 g key chain hash sk pk peer mine theirs has num _ hkl hcl hhl hskl hpkl hpel hmil hthl r1_1) fun W2 e2=>?_
  have x2:=zaQ (zaQ (zaM w) e1) e2
  refine sg 1 kj <| sgN hK9 <| cond_false kj <| wp_skip <| hK8 _ _ <| wp_seq_k fun K10 hK10=>sgC fun K11 hK11=>sg 2 kj <| Qac (.bool false) 17 rfl kj (Qam (u:=.bool (decide (((text.length:Nat):Int)>1024))) kj (congrArg za6 (decide_eq_false (by omega)))) <| sgN hK11 ?_
  refine cond_false kj <| wp_skip <| hK10 _ _ <| sgC fun K12 hK12=>sg 2 kj ?_
  have r1_2:=(Qaa r1_1 e2)
  refine Qac (.agg (HR key has num chain hash true sk pk peer 0 mine theirs)) 21 rfl kj (Qae 76 _ g 76 _ _ r1_2 rfl kj kj (isz (n:=260) kj (by (try unfold HR); rw [Qab,Qab,Qab,Qab,Qab,Qab,Qab,Qab,Qab,Qab,Qab,Qab]; simp only [qS,cat,(izT hcl),(izT hhl),(izT hkl),(izT hmil),(izT hpel),(izT hpkl),(izT hskl),(izT hthl)]; rfl))) ?_
  refine Qak (HR (zae 32 0) false 0 (zae 32 0) (zae 32 0) false (zae 32 0) (zae 32 0) (zae 32 0) 0 (zae 32 0) (zae 32 0)) 76 8 rfl kj kj fun g13 W3 l13 e3 r13_3=>Qai g13 _ (HR key has num chain hash true sk pk peer 0 mine theirs) 76 r13_3 rfl kj (Qag 76 _ _ g13 76 _ _ r13_3 rfl kj kj (isz (n:=260) kj (by (try unfold HR); rw [Qab,Qab,Qab,Qab,Qab,Qab,Qab,Qab,Qab,Qab,Qab,Qab]; simp only [qS,cat,(izT hcl),(izT hhl),(izT hkl),(izT hmil),(izT hpel),(izT hpkl),(izT hskl),(izT hthl)]; rfl)) (eqsz (n:=260) (by (try unfold HR); rw [Qab,Qab,Qab,Qab,Qab,Qab,Qab,Qab,Qab,Qab,Qab,Qab]; simp only [qS,cat,(izT (qZ (n:=32)))]; rfl) (by (try unfold HR); rw [Qab,Qab,Qab,Qab,Qab,Qab,Qab,Qab,Qab,Qab,Qab,Qab]; simp only [qS,cat,(izT hcl),(izT hhl),(izT hkl),(izT hmil),(izT hpel),(izT hpkl),(izT hskl),(izT hthl)]; rfl)) (Qch _ (by intro a ha; simp only [zai,zaj,or_false] at ha; rcases ha with rfl | rfl | rfl | rfl | rfl | rfl | rfl | rfl | rfl | rfl | rfl | rfl; exact (ints_one _ _); exact (QbE _ rfl); exact (QbE _ rfl); exact (ints_one _ _); exact (ints_one _ _); exact (QbE _ rfl); exact (ints_one _ _); exact (ints_one _ _); exact (ints_one _ _); exact (QbE _ rfl); exact (ints_one _ _); exact (ints_one _ _)))) fun W4 p4 r13_4=>?_
  refine sgN hK12 <| sgC fun K14 hK14=>sg 1 kj ?_
  have r7_2:=(Qaa r7_1 e2)
  refine Qac (.agg (ints .u8 (e))) 24 rfl kj (Qae 23 _ g7 23 _ _ (rpn p4 r7_2 e3 l13) rfl kj kj (isz (n:=32) kj (izT hel))) <| sg 1 kj ?_
  have xb4:=zaS (zaR g w) (zaP p4 (zaQ x2 e3) (qT x2.size l13))
  have r4_2:=(Qaa (Qaa hc4 e1) e2)
  have r5_2:=(Qaa (Qaa hq4 e1) e2)
  have r3_2:=(Qaa (Qaa hh4 e1) e2)
  have r2_2:=(Qaa (Qaa hr4 e1) e2)
  refine Qaw (fun v W'=>∃ u,v=.tuple #[u,.nilIface]∧OwnN .u8 5 W4.heap.size (pubL e++fs) u W'∧ExtB g W4 W'∧W'.heap[g]? = some (.cells (HR k2 true 1 c2 (dig (h1++fs)) true sk pk peer 1 e theirs) 76)) 31 #[.pointer (some ⟨g,0,none⟩),.agg (ints .u8 (e)),.slice a_t text.length c_t] 26 rfl kj kj ((Qo9 g key chain hash sk pk peer mine theirs has true num e text h1 k1 c1 k2 c2 fs tc tq th tr _ hkl hcl hhl hskl hpkl hpel hmil hthl hcb hhb hskb hpkb hpeb hmib hthb hel heb ha0 ha1 eh1 ec1 ek1 ec2 ek2 es htl _ (fun W x=>hst _ (zaV xb4 x)) ⟨(rpn p4 r4_2 e3 l13),(rpn p4 r5_2 e3 l13),(rpn p4 r3_2 e3 l13),(rpn p4 r2_2 e3 l13)⟩ hnc hnq hnh hnr (rpn p4 r1_2 e3 l13)).mono (by rintro e w' ⟨u,rfl,h1,h2,h3⟩; exact ⟨_,rfl,u,rfl,h1,h2,h3⟩)) fun v W5 h15=>?_
  obtain ⟨u15_,rfl,hu15_,q5,r1_5⟩:=h15
  obtain ⟨a15_,c15_,rfl,-⟩:=id (zaY hu15_)
  refine sg 5 kj <| sgN hK14 <| wp_seq_k fun K16 hK16=>sgB kj <| cond_false kj <| wp_skip <| hK16 _ _ <| sgB kj <| wp_ret ?_
  exact (show bodyPost _ _ _ .ret _ _ from ret2 (.slice a15_ ((pubL e++fs).length) c15_) (.nilIface) rfl (Qa4 kj) (Qa4 kj) ⟨_,rfl,zaX xb4.2.2.2.1 hu15_,(zaV xb4 q5),r1_5⟩)
set_option maxRecDepth 100000 in
theorem QmM (g : Nat) (key chain hash sk pk peer mine theirs:List Int) (has:Bool) (num:Int) (e text h1 k1 c1 k2 c2 fs:List Int) (tc tq th tr:TypeId) (w:World) (hkl:key.length=32) (hcl:chain.length=32) (hhl:hash.length=32) (hskl:sk.length=32) (hpkl:pk.length=32) (hpel:peer.length=32) (hmil:mine.length=32) (hthl:theirs.length=32) (hcb:Qaf chain) (hhb:Qaf hash) (hskb:Qaf sk) (hpkb:Qaf pk) (hpeb:Qaf peer) (hmib:Qaf mine) (hthb:Qaf theirs) (hel:e.length=32) (heb:Qaf e) (ha0:(agN e peer==0)=false) (ha1:(agN e theirs==0)=false)
    (eh1:h1=dig (hash++pubL e)) (ec1:c1=twA (hmac chain (Qav (agN e theirs)))) (ek1:k1=twB (hmac chain (Qav (agN e theirs)))) (ec2:c2=twA (hmac c1 (Qav (agN e peer)))) (ek2:k2=twB (hmac c1 (Qav (agN e peer)))) (es:Qc0 k2 (nonV 0) h1 text=fs) (htl:text.length≤1024) (v:Value) (hst:∀ W,ExtB g w W→RdK .u8 W.heap.size text v W) (hT:Tabs tc tq th tr w) (hnc:1≠g) (hnq:0≠g) (hnh:2≠g) (hnr:3≠g) (hg:w.heap[g]? = some (.cells (HR key has num chain hash false sk pk peer 1 mine theirs) 76)) :
    Calls Tryz.prog 13 #[.pointer (some ⟨g,0,none⟩),.agg (ints .u8 e),v] w (fun x W=>∃ u,x=.returned (.tuple #[u,.nilIface])∧OwnN .u8 5 w.heap.size (pubL e++fs) u W∧ExtB g w W∧W.heap[g]? = some (.cells (HR k2 true 1 c2 (dig (h1++fs)) false sk pk peer 2 (zae 32 0) theirs) 76)):=by
  obtain ⟨a_t,c_t,rfl,-⟩:=id (hst _ (zaR g w))
  have hk2l:k2.length=32:=by rw [ek2]; exact QaN _
  have hc2l:c2.length=32:=by rw [ec2]; exact QaJ _
  have hc4:=hT.c
  have hq4:=hT.q
  have hh4:=hT.h
  have hr4:=hT.r
  refine enter 36 [(0,.pointer (some ⟨g,0,none⟩)),(1,.agg (ints .u8 (e))),(2,.slice a_t text.length c_t)] Tryz.func13 rfl rfl kj rfl <| sgC fun K6 hK6=>Qak (ints .u8 (e)) 23 4 rfl kj kj fun g7 W1 l7 e1 r7_1=>?_
  have b7:=qT (zaM w).size l7
  refine sg 2 kj <| sgN hK6 <| wp_seq_k fun K8 hK8=>sgC fun K9 hK9=>sg 1 kj ?_
  have r1_1:=(Qaa hg e1)
  refine Qas (.bool true) 20 #[.pointer (some ⟨g,0,none⟩)] 12 rfl kj kj (QiQ g key chain hash sk pk peer mine theirs has num _ hkl hcl hhl hskl hpkl hpel hmil hthl r1_1) fun W2 e2=>?_
  have x2:=zaQ (zaQ (zaM w) e1) e2
  refine sg 1 kj <| sgN hK9 <| cond_false kj <| wp_skip <| hK8 _ _ <| wp_seq_k fun K10 hK10=>sgC fun K11 hK11=>sg 2 kj <| Qac (.bool false) 17 rfl kj (Qam (u:=.bool (decide (((text.length:Nat):Int)>1024))) kj (congrArg za6 (decide_eq_false (by omega)))) <| sgN hK11 ?_
  refine cond_false kj <| wp_skip <| hK10 _ _ <| sgC fun K12 hK12=>sg 2 kj ?_
  have r1_2:=(Qaa r1_1 e2)
  refine Qac (.agg (HR key has num chain hash false sk pk peer 1 mine theirs)) 21 rfl kj (Qae 76 _ g 76 _ _ r1_2 rfl kj kj (isz (n:=260) kj (by (try unfold HR); rw [Qab,Qab,Qab,Qab,Qab,Qab,Qab,Qab,Qab,Qab,Qab,Qab]; simp only [qS,cat,(izT hcl),(izT hhl),(izT hkl),(izT hmil),(izT hpel),(izT hpkl),(izT hskl),(izT hthl)]; rfl))) ?_
  refine Qak (HR (zae 32 0) false 0 (zae 32 0) (zae 32 0) false (zae 32 0) (zae 32 0) (zae 32 0) 0 (zae 32 0) (zae 32 0)) 76 8 rfl kj kj fun g13 W3 l13 e3 r13_3=>Qai g13 _ (HR key has num chain hash false sk pk peer 1 mine theirs) 76 r13_3 rfl kj (Qag 76 _ _ g13 76 _ _ r13_3 rfl kj kj (isz (n:=260) kj (by (try unfold HR); rw [Qab,Qab,Qab,Qab,Qab,Qab,Qab,Qab,Qab,Qab,Qab,Qab]; simp only [qS,cat,(izT hcl),(izT hhl),(izT hkl),(izT hmil),(izT hpel),(izT hpkl),(izT hskl),(izT hthl)]; rfl)) (eqsz (n:=260) (by (try unfold HR); rw [Qab,Qab,Qab,Qab,Qab,Qab,Qab,Qab,Qab,Qab,Qab,Qab]; simp only [qS,cat,(izT (qZ (n:=32)))]; rfl) (by (try unfold HR); rw [Qab,Qab,Qab,Qab,Qab,Qab,Qab,Qab,Qab,Qab,Qab,Qab]; simp only [qS,cat,(izT hcl),(izT hhl),(izT hkl),(izT hmil),(izT hpel),(izT hpkl),(izT hskl),(izT hthl)]; rfl)) (Qch _ (by intro a ha; simp only [zai,zaj,or_false] at ha; rcases ha with rfl | rfl | rfl | rfl | rfl | rfl | rfl | rfl | rfl | rfl | rfl | rfl; exact (ints_one _ _); exact (QbE _ rfl); exact (QbE _ rfl); exact (ints_one _ _); exact (ints_one _ _); exact (QbE _ rfl); exact (ints_one _ _); exact (ints_one _ _); exact (ints_one _ _); exact (QbE _ rfl); exact (ints_one _ _); exact (ints_one _ _)))) fun W4 p4 r13_4=>?_
  refine sgN hK12 <| sgC fun K14 hK14=>sg 1 kj ?_
  have r7_2:=(Qaa r7_1 e2)
  refine Qac (.agg (ints .u8 (e))) 24 rfl kj (Qae 23 _ g7 23 _ _ (rpn p4 r7_2 e3 l13) rfl kj kj (isz (n:=32) kj (izT hel))) <| sg 1 kj ?_
  have xb4:=zaS (zaR g w) (zaP p4 (zaQ x2 e3) (qT x2.size l13))
  have r4_2:=(Qaa (Qaa hc4 e1) e2)
  have r5_2:=(Qaa (Qaa hq4 e1) e2)
  have r3_2:=(Qaa (Qaa hh4 e1) e2)
  have r2_2:=(Qaa (Qaa hr4 e1) e2)
  refine Qaw (fun v W'=>∃ u,v=.tuple #[u,.nilIface]∧OwnN .u8 5 W4.heap.size (pubL e++fs) u W'∧ExtB g W4 W'∧W'.heap[g]? = some (.cells (HR k2 true 1 c2 (dig (h1++fs)) false sk pk peer 2 (zae 32 0) theirs) 76)) 31 #[.pointer (some ⟨g,0,none⟩),.agg (ints .u8 (e)),.slice a_t text.length c_t] 26 rfl kj kj ((Qo8 g key chain hash sk pk peer mine theirs has false num e text h1 k1 c1 k2 c2 fs tc tq th tr _ hkl hcl hhl hskl hpkl hpel hmil hthl hcb hhb hskb hpkb hpeb hmib hthb hel heb ha0 ha1 eh1 ec1 ek1 ec2 ek2 es htl _ (fun W x=>hst _ (zaV xb4 x)) ⟨(rpn p4 r4_2 e3 l13),(rpn p4 r5_2 e3 l13),(rpn p4 r3_2 e3 l13),(rpn p4 r2_2 e3 l13)⟩ hnc hnq hnh hnr (rpn p4 r1_2 e3 l13)).mono (by rintro e w' ⟨u,rfl,h1,h2,h3⟩; exact ⟨_,rfl,u,rfl,h1,h2,h3⟩)) fun v W5 h15=>?_
  obtain ⟨u15_,rfl,hu15_,q5,r1_5⟩:=h15
  obtain ⟨a15_,c15_,rfl,-⟩:=id (zaY hu15_)
  refine sg 5 kj <| sgN hK14 <| wp_seq_k fun K16 hK16=>sgB kj <| cond_false kj <| wp_skip <| hK16 _ _ <| sgB kj <| wp_ret ?_
  exact (show bodyPost _ _ _ .ret _ _ from ret2 (.slice a15_ ((pubL e++fs).length) c15_) (.nilIface) rfl (Qa4 kj) (Qa4 kj) ⟨_,rfl,zaX xb4.2.2.2.1 hu15_,(zaV xb4 q5),r1_5⟩)
set_option maxRecDepth 100000 in
theorem Qo4 (g : Nat) (key chain hash sk pk peer mine theirs:List Int) (has:Bool) (num:Int) (te text h1 k1 c1 k2 c2 fs bx:List Int) (tc tq th tr:TypeId) (w:World) (hkl:key.length=32) (hcl:chain.length=32) (hhl:hash.length=32) (hskl:sk.length=32) (hpkl:pk.length=32) (hpel:peer.length=32) (hmil:mine.length=32) (hthl:theirs.length=32) (hcb:Qaf chain) (hhb:Qaf hash) (hskb:Qaf sk) (hpkb:Qaf pk) (hpeb:Qaf peer) (hmib:Qaf mine) (hthb:Qaf theirs) (htel:te.length=32) (hteb:Qaf te) (ha0:(agN sk te==0)=false) (ha1:(agN sk peer==0)=false)
    (eh1:h1=dig (hash++te)) (ec1:c1=twA (hmac chain (Qav (agN sk te)))) (ek1:k1=twB (hmac chain (Qav (agN sk te)))) (ec2:c2=twA (hmac c1 (Qav (agN sk peer)))) (ek2:k2=twB (hmac c1 (Qav (agN sk peer)))) (es:Qc0 k2 (nonV 0) h1 text=fs) (htb:Qaf text) (htl:text.length≤1024) (ebx:bx=te++fs) (v:Value) (hst:∀ W,ExtB g w W→RdK .u8 W.heap.size bx v W) (hT:Tabs tc tq th tr w) (hnc:1≠g) (hnq:0≠g) (hnh:2≠g) (hnr:3≠g) (hg:w.heap[g]? = some (.cells (HR key has num chain hash false sk pk peer 0 mine theirs) 76)) :
    Calls Tryz.prog 15 #[.pointer (some ⟨g,0,none⟩),v] w (fun x W=>∃ u,x=.returned (.tuple #[u,.nilIface])∧OwnN .u8 5 w.heap.size (text) u W∧ExtB g w W∧W.heap[g]? = some (.cells (HR k2 true 1 c2 (dig (h1++fs)) false sk pk peer 1 mine te) 76)):=by
  obtain ⟨a_t,c_t,rfl,-⟩:=id (hst _ (zaR g w))
  have hk2l:k2.length=32:=by rw [ek2]; exact QaN _
  have hc2l:c2.length=32:=by rw [ec2]; exact QaJ _
  have lbx:bx.length=text.length+48:=by rw [ebx,zap,htel,←es,QbR]; omega
  have hc4:=hT.c
  have hq4:=hT.q
  have hh4:=hT.h
  have hr4:=hT.r
  refine enter 48 [(0,.pointer (some ⟨g,0,none⟩)),(1,.slice a_t bx.length c_t)] Tryz.func15 rfl rfl kj rfl <| sgB kj <| wp_seq_k fun K7 hK7=>sgC fun K8 hK8=>sg 4 kj <| Qas (.bool false) 20 #[.pointer (some ⟨g,0,none⟩)] 13 rfl kj kj (QiR g key chain hash sk pk peer mine theirs has num _ hkl hcl hhl hskl hpkl hpel hmil hthl hg) fun W1 e1=>?_
  have x1:=zaQ (zaM w) e1
  refine sg 5 kj ?_
  have r1_1:=(Qaa hg e1)
  refine Qac (.int .i64 0) 19 rfl kj (Qaj 74 _ g 195 76 _ (.int .i64 0) _ r1_1 rfl kj (Qaq [ints .u8 (key),#[.bool has],#[.int .i64 num],ints .u8 (chain),ints .u8 (hash),#[.bool false],ints .u8 (sk),ints .u8 (pk),ints .u8 (peer)] [#[.int .i64 0]] [ints .u8 (mine),ints .u8 (theirs)] 195 (by rw [Qab,Qab,Qab,Qab,Qab,Qab,Qab,Qab,Qab]; simp only [qS,cat,(izT hcl),(izT hhl),(izT hkl),(izT hpel),(izT hpkl),(izT hskl)]; rfl) 0 _ rfl) kj) ?_
  refine sg 2 kj <| sgN hK8 <| cond_false kj <| wp_skip <| hK7 _ _ <| wp_seq_k fun K9 hK9=>sgC fun K10 hK10=>sg 2 kj <| Qac (.bool false) 25 rfl kj (Qam (u:=.bool (decide (((bx.length:Nat):Int)<48))) kj (congrArg za6 (decide_eq_false (by omega)))) <| sg 3 kj ?_
  refine Qac (.bool false) 29 rfl kj (Qam (u:=.bool (decide (((bx.length:Nat):Int)>1072))) kj (congrArg za6 (decide_eq_false (by omega)))) <| sg 1 kj <| sgN hK10 <| cond_false kj <| wp_skip <| hK9 _ _ <| sgC fun K11 hK11=>sg 2 kj <| Qac (.agg (HR key has num chain hash false sk pk peer 0 mine theirs)) 34 rfl kj (Qae 76 _ g 76 _ _ r1_1 rfl kj kj (isz (n:=260) kj (by (try unfold HR); rw [Qab,Qab,Qab,Qab,Qab,Qab,Qab,Qab,Qab,Qab,Qab,Qab]; simp only [qS,cat,(izT hcl),(izT hhl),(izT hkl),(izT hmil),(izT hpel),(izT hpkl),(izT hskl),(izT hthl)]; rfl))) ?_
  refine Qak (HR (zae 32 0) false 0 (zae 32 0) (zae 32 0) false (zae 32 0) (zae 32 0) (zae 32 0) 0 (zae 32 0) (zae 32 0)) 76 6 rfl kj kj fun g12 W2 l12 e2 r12_2=>Qai g12 _ (HR key has num chain hash false sk pk peer 0 mine theirs) 76 r12_2 rfl kj (Qag 76 _ _ g12 76 _ _ r12_2 rfl kj kj (isz (n:=260) kj (by (try unfold HR); rw [Qab,Qab,Qab,Qab,Qab,Qab,Qab,Qab,Qab,Qab,Qab,Qab]; simp only [qS,cat,(izT hcl),(izT hhl),(izT hkl),(izT hmil),(izT hpel),(izT hpkl),(izT hskl),(izT hthl)]; rfl)) (eqsz (n:=260) (by (try unfold HR); rw [Qab,Qab,Qab,Qab,Qab,Qab,Qab,Qab,Qab,Qab,Qab,Qab]; simp only [qS,cat,(izT (qZ (n:=32)))]; rfl) (by (try unfold HR); rw [Qab,Qab,Qab,Qab,Qab,Qab,Qab,Qab,Qab,Qab,Qab,Qab]; simp only [qS,cat,(izT hcl),(izT hhl),(izT hkl),(izT hmil),(izT hpel),(izT hpkl),(izT hskl),(izT hthl)]; rfl)) (Qch _ (by intro a ha; simp only [zai,zaj,or_false] at ha; rcases ha with rfl | rfl | rfl | rfl | rfl | rfl | rfl | rfl | rfl | rfl | rfl | rfl; exact (ints_one _ _); exact (QbE _ rfl); exact (QbE _ rfl); exact (ints_one _ _); exact (ints_one _ _); exact (QbE _ rfl); exact (ints_one _ _); exact (ints_one _ _); exact (ints_one _ _); exact (QbE _ rfl); exact (ints_one _ _); exact (ints_one _ _)))) fun W3 p3 r12_3=>?_
  refine sgN hK11 <| sgC fun K13 hK13=>sg 2 kj ?_
  have xb3:=zaS (zaR g w) (zaP p3 (zaQ x1 e2) (qT x1.size l12))
  have r4_1:=(Qaa hc4 e1)
  have r5_1:=(Qaa hq4 e1)
  have r3_1:=(Qaa hh4 e1)
  have r2_1:=(Qaa hr4 e1)
  refine Qaw (fun v W'=>∃ u,v=.tuple #[u,.nilIface]∧OwnN .u8 5 W3.heap.size (text) u W'∧ExtB g W3 W'∧W'.heap[g]? = some (.cells (HR k2 true 1 c2 (dig (h1++fs)) false sk pk peer 1 mine te) 76)) 34 #[.pointer (some ⟨g,0,none⟩),.slice a_t bx.length c_t] 38 rfl kj kj ((Qqe g key chain hash sk pk peer mine theirs has false num te text h1 k1 c1 k2 c2 fs bx tc tq th tr _ hkl hcl hhl hskl hpkl hpel hmil hthl hcb hhb hskb hpkb hpeb hmib hthb htel hteb ha0 ha1 eh1 ec1 ek1 ec2 ek2 es htb htl ebx _ (fun W x=>hst _ (zaV xb3 x)) ⟨(rpn p3 r4_1 e2 l12),(rpn p3 r5_1 e2 l12),(rpn p3 r3_1 e2 l12),(rpn p3 r2_1 e2 l12)⟩ hnc hnq hnh hnr (rpn p3 r1_1 e2 l12)).mono (by rintro e w' ⟨u,rfl,h1,h2,h3⟩; exact ⟨_,rfl,u,rfl,h1,h2,h3⟩)) fun v W4 h14=>?_
  obtain ⟨u14_,rfl,hu14_,q4,r1_4⟩:=h14
  obtain ⟨a14_,c14_,rfl,-⟩:=id (zaY hu14_)
  refine sg 5 kj <| sgN hK13 <| wp_seq_k fun K15 hK15=>sgB kj <| cond_false kj <| wp_skip <| hK15 _ _ <| sgB kj <| wp_ret ?_
  exact (show bodyPost _ _ _ .ret _ _ from ret2 (.slice a14_ ((text).length) c14_) (.nilIface) rfl (Qa4 kj) (Qa4 kj) ⟨_,rfl,zaX xb3.2.2.2.1 hu14_,(zaV xb3 q4),r1_4⟩)
set_option maxRecDepth 100000 in
theorem Qo3 (g : Nat) (key chain hash sk pk peer mine theirs:List Int) (has:Bool) (num:Int) (te text h1 k1 c1 k2 c2 fs bx:List Int) (tc tq th tr:TypeId) (w:World) (hkl:key.length=32) (hcl:chain.length=32) (hhl:hash.length=32) (hskl:sk.length=32) (hpkl:pk.length=32) (hpel:peer.length=32) (hmil:mine.length=32) (hthl:theirs.length=32) (hcb:Qaf chain) (hhb:Qaf hash) (hskb:Qaf sk) (hpkb:Qaf pk) (hpeb:Qaf peer) (hmib:Qaf mine) (hthb:Qaf theirs) (htel:te.length=32) (hteb:Qaf te) (ha0:(agN sk te==0)=false) (ha1:(agN mine te==0)=false)
    (eh1:h1=dig (hash++te)) (ec1:c1=twA (hmac chain (Qav (agN mine te)))) (ek1:k1=twB (hmac chain (Qav (agN mine te)))) (ec2:c2=twA (hmac c1 (Qav (agN sk te)))) (ek2:k2=twB (hmac c1 (Qav (agN sk te)))) (es:Qc0 k2 (nonV 0) h1 text=fs) (htb:Qaf text) (htl:text.length≤1024) (ebx:bx=te++fs) (v:Value) (hst:∀ W,ExtB g w W→RdK .u8 W.heap.size bx v W) (hT:Tabs tc tq th tr w) (hnc:1≠g) (hnq:0≠g) (hnh:2≠g) (hnr:3≠g) (hg:w.heap[g]? = some (.cells (HR key has num chain hash true sk pk peer 1 mine theirs) 76)) :
    Calls Tryz.prog 15 #[.pointer (some ⟨g,0,none⟩),v] w (fun x W=>∃ u,x=.returned (.tuple #[u,.nilIface])∧OwnN .u8 5 w.heap.size (text) u W∧ExtB g w W∧W.heap[g]? = some (.cells (HR k2 true 1 c2 (dig (h1++fs)) true sk pk peer 2 (zae 32 0) te) 76)):=by
  obtain ⟨a_t,c_t,rfl,-⟩:=id (hst _ (zaR g w))
  have hk2l:k2.length=32:=by rw [ek2]; exact QaN _
  have hc2l:c2.length=32:=by rw [ec2]; exact QaJ _
  have lbx:bx.length=text.length+48:=by rw [ebx,zap,htel,←es,QbR]; omega
  have hc4:=hT.c
  have hq4:=hT.q
  have hh4:=hT.h
  have hr4:=hT.r
  refine enter 48 [(0,.pointer (some ⟨g,0,none⟩)),(1,.slice a_t bx.length c_t)] Tryz.func15 rfl rfl kj rfl <| sgB kj <| wp_seq_k fun K7 hK7=>sgC fun K8 hK8=>sg 4 kj <| Qas (.bool false) 20 #[.pointer (some ⟨g,0,none⟩)] 13 rfl kj kj (Qk3 g key chain hash sk pk peer mine theirs has num _ hkl hcl hhl hskl hpkl hpel hmil hthl hg) fun W1 e1=>?_
  have x1:=zaQ (zaM w) e1
  refine sg 5 kj ?_
  have r1_1:=(Qaa hg e1)
  refine Qac (.int .i64 1) 19 rfl kj (Qaj 74 _ g 195 76 _ (.int .i64 1) _ r1_1 rfl kj (Qaq [ints .u8 (key),#[.bool has],#[.int .i64 num],ints .u8 (chain),ints .u8 (hash),#[.bool true],ints .u8 (sk),ints .u8 (pk),ints .u8 (peer)] [#[.int .i64 1]] [ints .u8 (mine),ints .u8 (theirs)] 195 (by rw [Qab,Qab,Qab,Qab,Qab,Qab,Qab,Qab,Qab]; simp only [qS,cat,(izT hcl),(izT hhl),(izT hkl),(izT hpel),(izT hpkl),(izT hskl)]; rfl) 0 _ rfl) kj) ?_
  refine sg 2 kj <| sgN hK8 <| cond_false kj <| wp_skip <| hK7 _ _ <| wp_seq_k fun K9 hK9=>sgC fun K10 hK10=>sg 2 kj <| Qac (.bool false) 25 rfl kj (Qam (u:=.bool (decide (((bx.length:Nat):Int)<48))) kj (congrArg za6 (decide_eq_false (by omega)))) <| sg 3 kj ?_
  refine Qac (.bool false) 29 rfl kj (Qam (u:=.bool (decide (((bx.length:Nat):Int)>1072))) kj (congrArg za6 (decide_eq_false (by omega)))) <| sg 1 kj <| sgN hK10 <| cond_false kj <| wp_skip <| hK9 _ _ <| sgC fun K11 hK11=>sg 2 kj <| Qac (.agg (HR key has num chain hash true sk pk peer 1 mine theirs)) 34 rfl kj (Qae 76 _ g 76 _ _ r1_1 rfl kj kj (isz (n:=260) kj (by (try unfold HR); rw [Qab,Qab,Qab,Qab,Qab,Qab,Qab,Qab,Qab,Qab,Qab,Qab]; simp only [qS,cat,(izT hcl),(izT hhl),(izT hkl),(izT hmil),(izT hpel),(izT hpkl),(izT hskl),(izT hthl)]; rfl))) ?_
  refine Qak (HR (zae 32 0) false 0 (zae 32 0) (zae 32 0) false (zae 32 0) (zae 32 0) (zae 32 0) 0 (zae 32 0) (zae 32 0)) 76 6 rfl kj kj fun g12 W2 l12 e2 r12_2=>Qai g12 _ (HR key has num chain hash true sk pk peer 1 mine theirs) 76 r12_2 rfl kj (Qag 76 _ _ g12 76 _ _ r12_2 rfl kj kj (isz (n:=260) kj (by (try unfold HR); rw [Qab,Qab,Qab,Qab,Qab,Qab,Qab,Qab,Qab,Qab,Qab,Qab]; simp only [qS,cat,(izT hcl),(izT hhl),(izT hkl),(izT hmil),(izT hpel),(izT hpkl),(izT hskl),(izT hthl)]; rfl)) (eqsz (n:=260) (by (try unfold HR); rw [Qab,Qab,Qab,Qab,Qab,Qab,Qab,Qab,Qab,Qab,Qab,Qab]; simp only [qS,cat,(izT (qZ (n:=32)))]; rfl) (by (try unfold HR); rw [Qab,Qab,Qab,Qab,Qab,Qab,Qab,Qab,Qab,Qab,Qab,Qab]; simp only [qS,cat,(izT hcl),(izT hhl),(izT hkl),(izT hmil),(izT hpel),(izT hpkl),(izT hskl),(izT hthl)]; rfl)) (Qch _ (by intro a ha; simp only [zai,zaj,or_false] at ha; rcases ha with rfl | rfl | rfl | rfl | rfl | rfl | rfl | rfl | rfl | rfl | rfl | rfl; exact (ints_one _ _); exact (QbE _ rfl); exact (QbE _ rfl); exact (ints_one _ _); exact (ints_one _ _); exact (QbE _ rfl); exact (ints_one _ _); exact (ints_one _ _); exact (ints_one _ _); exact (QbE _ rfl); exact (ints_one _ _); exact (ints_one _ _)))) fun W3 p3 r12_3=>?_
  refine sgN hK11 <| sgC fun K13 hK13=>sg 2 kj ?_
  have xb3:=zaS (zaR g w) (zaP p3 (zaQ x1 e2) (qT x1.size l12))
  have r4_1:=(Qaa hc4 e1)
  have r5_1:=(Qaa hq4 e1)
  have r3_1:=(Qaa hh4 e1)
  have r2_1:=(Qaa hr4 e1)
  refine Qaw (fun v W'=>∃ u,v=.tuple #[u,.nilIface]∧OwnN .u8 5 W3.heap.size (text) u W'∧ExtB g W3 W'∧W'.heap[g]? = some (.cells (HR k2 true 1 c2 (dig (h1++fs)) true sk pk peer 2 (zae 32 0) te) 76)) 34 #[.pointer (some ⟨g,0,none⟩),.slice a_t bx.length c_t] 38 rfl kj kj ((Qqd g key chain hash sk pk peer mine theirs has true num te text h1 k1 c1 k2 c2 fs bx tc tq th tr _ hkl hcl hhl hskl hpkl hpel hmil hthl hcb hhb hskb hpkb hpeb hmib hthb htel hteb ha0 ha1 eh1 ec1 ek1 ec2 ek2 es htb htl ebx _ (fun W x=>hst _ (zaV xb3 x)) ⟨(rpn p3 r4_1 e2 l12),(rpn p3 r5_1 e2 l12),(rpn p3 r3_1 e2 l12),(rpn p3 r2_1 e2 l12)⟩ hnc hnq hnh hnr (rpn p3 r1_1 e2 l12)).mono (by rintro e w' ⟨u,rfl,h1,h2,h3⟩; exact ⟨_,rfl,u,rfl,h1,h2,h3⟩)) fun v W4 h14=>?_
  obtain ⟨u14_,rfl,hu14_,q4,r1_4⟩:=h14
  obtain ⟨a14_,c14_,rfl,-⟩:=id (zaY hu14_)
  refine sg 5 kj <| sgN hK13 <| wp_seq_k fun K15 hK15=>sgB kj <| cond_false kj <| wp_skip <| hK15 _ _ <| sgB kj <| wp_ret ?_
  exact (show bodyPost _ _ _ .ret _ _ from ret2 (.slice a14_ ((text).length) c14_) (.nilIface) rfl (Qa4 kj) (Qa4 kj) ⟨_,rfl,zaX xb3.2.2.2.1 hu14_,(zaV xb3 q4),r1_4⟩)
end No
end
section
namespace No
open Go Go.RowKit
open Rely Auto Own Sha
open Cha
open Ae hiding run_storeQ
open Ll hiding run_storeQ
open Ci Wk
open Field (Qav pubL agN Qat Qbc QaE Qbk)
theorem QaP (xs : List Int):Qaf (pubL xs):=by unfold pubL; exact Field.bytesOf_areBytes _
def nA_ : List Int:=1::zae 31 0
def nB_ : List Int:=[9,0,0,7]++zae 28 0
def nX_ : List Int:=[8,0,0,0,0,5]++zae 26 0
def nY_ : List Int:=[16,0,0,0,0,0,0,5]++zae 24 0
set_option maxRecDepth 100000 in
theorem QhK (tc tq th tr:TypeId) (w:World) (hT:Tabs tc tq th tr w):Calls Tryz.prog 7 #[] w (Ret w (.bool true)):=by
  have hsal:nA_.length=32:=rfl
  have hsab:Qaf nA_:=Qd5 _ (by decide)
  have hsbl:nB_.length=32:=rfl
  have hsbb:Qaf nB_:=Qd5 _ (by decide)
  have hsxl:nX_.length=32:=rfl
  have hsxb:Qaf nX_:=Qd5 _ (by decide)
  have hsyl:nY_.length=32:=rfl
  have hsyb:Qaf nY_:=Qd5 _ (by decide)
  have hptb:Qaf [104,105]:=Qd5 _ (by decide)
  have hptl:([104,105]:List Int).length≤1024:=by decide
  have hqtb:Qaf []:=fun x hx=>by cases hx
  have hqtl:([]:List Int).length≤1024:=by decide
  have hprb:Qaf []:=hqtb
  have hprl:([]:List Int).length≤1000:=by decide
  obtain ⟨nd,end_⟩:∃ z,z=dig [78,111,105,115,101,95,75,75,95,50,53,53,49,57,95,67,104,97,67,104,97,80,111,108,121,95,83,72,65,50,53,54]:=⟨_,rfl⟩
  obtain ⟨nn1,en1⟩:∃ z,z=dig (nd++([]:List Int)):=⟨_,rfl⟩
  obtain ⟨nn2,en2⟩:∃ z,z=dig (nn1++pubL nA_):=⟨_,rfl⟩
  obtain ⟨nn3,en3⟩:∃ z,z=dig (nn2++pubL nB_):=⟨_,rfl⟩
  have hndl:nd.length=32:=by rw [end_]; exact QaV _
  have hndb:Qaf nd:=by rw [end_]; exact Qbo _
  have hnn3l:nn3.length=32:=by rw [en3]; exact QaV _
  have hnn3b:Qaf nn3:=by rw [en3]; exact Qbo _
  have z32b:Qaf (zae 32 0):=fun x hx=>by
    obtain ⟨-,rfl⟩:=za7.1 hx
    exact ⟨by decide,by decide⟩
  obtain ⟨mh1,emh1⟩:∃ z,z=dig (nn3++pubL nX_):=⟨_,rfl⟩
  obtain ⟨mc1,emc1⟩:∃ z,z=twA (hmac nd (Qav (agN nX_ (pubL nB_)))):=⟨_,rfl⟩
  obtain ⟨mk1,emk1⟩:∃ z,z=twB (hmac nd (Qav (agN nX_ (pubL nB_)))):=⟨_,rfl⟩
  have emc1':=emc1
  rw [(Qbc hsxl hsxb hsbl hsbb).1] at emc1'
  have emk1':=emk1
  rw [(Qbc hsxl hsxb hsbl hsbb).1] at emk1'
  obtain ⟨mc2,emc2⟩:∃ z,z=twA (hmac mc1 (Qav (agN nA_ (pubL nB_)))):=⟨_,rfl⟩
  obtain ⟨mk2,emk2⟩:∃ z,z=twB (hmac mc1 (Qav (agN nA_ (pubL nB_)))):=⟨_,rfl⟩
  have emc2':=emc2
  rw [(Qbc hsal hsab hsbl hsbb).1] at emc2'
  have emk2':=emk2
  rw [(Qbc hsal hsab hsbl hsbb).1] at emk2'
  have hmk2l:mk2.length=32:=by rw [emk2]; exact QaN _
  have hmc2l:mc2.length=32:=by rw [emc2]; exact QaJ _
  have hmc2b:Qaf mc2:=by rw [emc2]; exact QdK _
  obtain ⟨fs1,ef1⟩:∃ z,Qc0 mk2 (nonV 0) mh1 [104,105]=z:=⟨_,rfl⟩
  have lfs1:fs1.length=([104,105]).length+16:=by rw [←ef1]; exact QbR _ _ _ _
  obtain ⟨mi1,emi1⟩:∃ z,z=dig (mh1++fs1):=⟨_,rfl⟩
  have hmi1l:mi1.length=32:=by rw [emi1]; exact QaV _
  have hmi1b:Qaf mi1:=by rw [emi1]; exact Qbo _
  obtain ⟨mh2,emh2⟩:∃ z,z=dig (mi1++pubL nY_):=⟨_,rfl⟩
  obtain ⟨mc3,emc3⟩:∃ z,z=twA (hmac mc2 (Qav (agN nY_ (pubL nX_)))):=⟨_,rfl⟩
  obtain ⟨mk3,emk3⟩:∃ z,z=twB (hmac mc2 (Qav (agN nY_ (pubL nX_)))):=⟨_,rfl⟩
  have emc3':=emc3
  rw [(Qbc hsyl hsyb hsxl hsxb).1] at emc3'
  have emk3':=emk3
  rw [(Qbc hsyl hsyb hsxl hsxb).1] at emk3'
  obtain ⟨mc4,emc4⟩:∃ z,z=twA (hmac mc3 (Qav (agN nY_ (pubL nA_)))):=⟨_,rfl⟩
  obtain ⟨mk4,emk4⟩:∃ z,z=twB (hmac mc3 (Qav (agN nY_ (pubL nA_)))):=⟨_,rfl⟩
  have emc4':=emc4
  rw [(Qbc hsyl hsyb hsal hsab).1] at emc4'
  have emk4':=emk4
  rw [(Qbc hsyl hsyb hsal hsab).1] at emk4'
  have hmk4l:mk4.length=32:=by rw [emk4]; exact QaN _
  have hmc4l:mc4.length=32:=by rw [emc4]; exact QaJ _
  have hmc4b:Qaf mc4:=by rw [emc4]; exact QdK _
  obtain ⟨fs2,ef2⟩:∃ z,Qc0 mk4 (nonV 0) mh2 ([]:List Int)=z:=⟨_,rfl⟩
  have lfs2:fs2.length=(([]:List Int)).length+16:=by rw [←ef2]; exact QbR _ _ _ _
  obtain ⟨mi2,emi2⟩:∃ z,z=dig (mh2++fs2):=⟨_,rfl⟩
  have hmi2l:mi2.length=32:=by rw [emi2]; exact QaV _
  have hmi2b:Qaf mi2:=by rw [emi2]; exact Qbo _
  have hc4:=hT.c
  have hq4:=hT.q
  have hh4:=hT.h
  have hr4:=hT.r
  refine enter 95 [] Tryz.func7 rfl rfl kj rfl <| sgB kj <| sgC fun K6 hK6=>sg 1 kj <| Qas (.agg (cat [ints .u8 (nA_),ints .u8 (pubL nA_)])) 10 #[.agg (ints .u8 (nA_))] 15 rfl kj kj ((Qnm nA_ hsal hsab) _) fun W1 e1=>sg 1 kj <| Qas (.agg (cat [ints .u8 (nB_),ints .u8 (pubL nB_)])) 10 #[.agg (ints .u8 (nB_))] 17 rfl kj kj ((Qnm nB_ hsbl hsbb) _) fun W2 e2=>?_
  have x2:=zaQ (zaQ (zaM w) e1) e2
  refine Qak (cat [ints .u8 (zae 32 0),ints .u8 (zae 32 0)]) 33 1 rfl kj kj fun g7 W3 l7 e3 r7_3=>?_
  have x3:=zaQ x2 e3
  refine Qak (cat [ints .u8 (zae 32 0),ints .u8 (zae 32 0)]) 33 2 rfl kj kj fun g8 W4 l8 e4 r8_4=>?_
  have r7_4:=(Qaa r7_3 e4)
  refine Qai g7 _ (cat [ints .u8 (nA_),ints .u8 (pubL nA_)]) 33 r7_4 rfl kj (Qag 33 _ _ g7 33 _ _ r7_4 rfl kj kj (isz (n:=64) kj (by rw [Qab,Qab]; simp only [qS,cat,(izT (Qat nA_)),(izT hsal)]; rfl)) (eqsz (n:=64) (by rw [Qab,Qab]; simp only [qS,cat,(izT (qZ (n:=32)))]; rfl) (by rw [Qab,Qab]; simp only [qS,cat,(izT (Qat nA_)),(izT hsal)]; rfl)) (Qch _ (by intro a ha; simp only [zai,zaj,or_false] at ha; rcases ha with rfl | rfl; exact (ints_one _ _); exact (ints_one _ _)))) fun W5 p5 r7_5=>?_
  have r8_5:=(zaO p5 r8_4 (Qap r7_3 l8))
  refine Qai g8 _ (cat [ints .u8 (nB_),ints .u8 (pubL nB_)]) 33 r8_5 rfl kj (Qag 33 _ _ g8 33 _ _ r8_5 rfl kj kj (isz (n:=64) kj (by rw [Qab,Qab]; simp only [qS,cat,(izT (Qat nB_)),(izT hsbl)]; rfl)) (eqsz (n:=64) (by rw [Qab,Qab]; simp only [qS,cat,(izT (qZ (n:=32)))]; rfl) (by rw [Qab,Qab]; simp only [qS,cat,(izT (Qat nB_)),(izT hsbl)]; rfl)) (Qch _ (by intro a ha; simp only [zai,zaj,or_false] at ha; rcases ha with rfl | rfl; exact (ints_one _ _); exact (ints_one _ _)))) fun W6 p6 r8_6=>?_
  refine sgN hK6 <| wp_seq_k fun K9 hK9=>QdC kj fun W7 e7=>?_
  have x7:=zaQ (zaP p6 (zaP p5 (zaQ x3 e4) (qT x2.size l7)) (qT x3.size l8)) e7
  have r7_7:=(Qaa (zaO p6 r7_5 (Qad r7_3 l8)) e7)
  refine QbF 0 (.agg (cat [ints .u8 (nA_),ints .u8 (pubL nA_)])) 18 rfl rfl kj kj (fun _ _ _ h=>h) (fun W hR=>(Qae 33 _ g7 33 _ _ (Qaa r7_7 hR) rfl kj kj (isz (n:=64) kj (by rw [Qab,Qab]; simp only [qS,cat,(izT (Qat nA_)),(izT hsal)]; rfl)))) ?_
  refine QbF 1 (.pointer (some ⟨g8,32,none⟩)) 19 rfl rfl kj kj (fun _ _ _ h=>h) (fun W hR=>by kernel_rfl) ?_
  have r8_7:=(Qaa r8_6 e7)
  refine QbF 2 (.agg (ints .u8 (pubL nB_))) 20 rfl rfl kj kj (fun _ _ _ h=>h) (fun W hR=>(Qan 23 _ g8 32 33 _ _ _ (Qaa r8_7 hR) rfl kj (Qaq [ints .u8 (nB_)] [ints .u8 (pubL nB_)] [] 32 (izT hsbl)) kj (isz (n:=32) kj (izT (Qat nB_))))) <| QbF 4 (.agg (cat [ints .u8 (nB_),ints .u8 (pubL nB_)])) 22 rfl rfl kj kj (fun _ _ _ h=>h) (fun W hR=>(Qae 33 _ g8 33 _ _ (Qaa r8_7 hR) rfl kj kj (isz (n:=64) kj (by rw [Qab,Qab]; simp only [qS,cat,(izT (Qat nB_)),(izT hsbl)]; rfl)))) ?_
  refine QbF 5 (.pointer (some ⟨g7,32,none⟩)) 23 rfl rfl kj kj (fun _ _ _ h=>h) (fun W hR=>by kernel_rfl) <| QbF 6 (.agg (ints .u8 (pubL nA_))) 24 rfl rfl kj kj (fun _ _ _ h=>h) (fun W hR=>(Qan 23 _ g7 32 33 _ _ _ (Qaa r7_7 hR) rfl kj (Qaq [ints .u8 (nA_)] [ints .u8 (pubL nA_)] [] 32 (izT hsal)) kj (isz (n:=32) kj (izT (Qat nA_))))) <| QeK 3 kj ?_
  have r3_2:=(Qaa (Qaa hc4 e1) e2)
  have r3_3:=(Qaa r3_2 e3)
  have r3_7:=(Qaa (zaO p6 (zaO p5 (Qaa r3_3 e4) (Qad r3_2 l7)) (Qad r3_3 l8)) e7)
  have r4_2:=(Qaa (Qaa hq4 e1) e2)
  have r4_3:=(Qaa r4_2 e3)
  have r4_7:=(Qaa (zaO p6 (zaO p5 (Qaa r4_3 e4) (Qad r4_2 l7)) (Qad r4_3 l8)) e7)
  have r2_2:=(Qaa (Qaa hh4 e1) e2)
  have r2_3:=(Qaa r2_2 e3)
  have r2_7:=(Qaa (zaO p6 (zaO p5 (Qaa r2_3 e4) (Qad r2_2 l7)) (Qad r2_3 l8)) e7)
  have r1_2:=(Qaa (Qaa hr4 e1) e2)
  have r1_3:=(Qaa r1_2 e3)
  have r1_7:=(Qaa (zaO p6 (zaO p5 (Qaa r1_3 e4) (Qad r1_2 l7)) (Qad r1_3 l8)) e7)
  refine Qe3 rfl (fun v W'=>(fun v W=>∃ g,v=.pointer (some ⟨g,0,none⟩)∧W7.heap.size≤g∧W.heap[g]? = some (.cells (HR (zae 32 0) false 0 nd nn3 true nA_ (pubL nA_) (pubL nB_) 0 (zae 32 0) (zae 32 0)) 76)) v W'∧Ext W7 W') 9 #[.bool true,.agg (cat [ints .u8 (nA_),ints .u8 (pubL nA_)]),.agg (ints .u8 (pubL nB_)),.slice none 0 0] 21 rfl kj kj ((Qks nA_ (pubL nA_) (pubL nB_) ([]:List Int) nd nn1 nn2 nn3 hsal (Qat _) (Qat _) (QaP _) (QaP _) hprb hprl tc tq th tr _ ⟨r3_7,r4_7,r2_7,r1_7⟩ _ _ (Qhq _) end_ en1 en2 en3).mono (by rintro e w' ⟨v,rfl,e1,hv⟩; exact ⟨v,rfl,hv,e1⟩)) (fun _ _ h=>zaN (zaM W7) h.2) fun vv10 W8 hh10=>?_
  obtain ⟨hv10,e8⟩:=hh10
  have x8:=zaQ x7 e8
  obtain ⟨gs11,rfl,ls11,rs11⟩:=hv10
  have bs11:=qT x7.size ls11
  refine QeK 7 kj ?_
  have r3_8:=(Qaa r3_7 e8)
  have r4_8:=(Qaa r4_7 e8)
  have r2_8:=(Qaa r2_7 e8)
  have r1_8:=(Qaa r1_7 e8)
  refine Qe3 rfl (fun v W'=>(fun v W=>∃ g,v=.pointer (some ⟨g,0,none⟩)∧W8.heap.size≤g∧W.heap[g]? = some (.cells (HR (zae 32 0) false 0 nd nn3 false nB_ (pubL nB_) (pubL nA_) 0 (zae 32 0) (zae 32 0)) 76)) v W'∧Ext W8 W') 9 #[.bool false,.agg (cat [ints .u8 (nB_),ints .u8 (pubL nB_)]),.agg (ints .u8 (pubL nA_)),.slice none 0 0] 25 rfl kj kj ((QiM nB_ (pubL nB_) (pubL nA_) ([]:List Int) nd nn1 nn2 nn3 hsbl (Qat _) (Qat _) (QaP _) (QaP _) hprb hprl tc tq th tr _ ⟨r3_8,r4_8,r2_8,r1_8⟩ _ _ (Qhq _) end_ en1 en2 en3).mono (by rintro e w' ⟨v,rfl,e1,hv⟩; exact ⟨v,rfl,hv,e1⟩)) (fun _ _ h=>zaN (zaN (zaM W7) e8) h.2) fun vv12 W9 hh12=>?_
  obtain ⟨hv12,e9⟩:=hh12
  have x9:=zaQ x8 e9
  obtain ⟨gs13,rfl,ls13,rs13⟩:=hv12
  have bs13:=qT x8.size ls13
  refine QbF 8 (.pointer (some ⟨gs11,0,none⟩)) 3 rfl rfl kj kj (fun _ _ _ h=>h) (fun W hR=>by kernel_rfl) <| QbF 9 (.pointer (some ⟨gs13,0,none⟩)) 4 rfl rfl kj kj (fun _ _ _ h=>h) (fun W hR=>by kernel_rfl) <| Qj9 kj <| hK9 _ _ <| sgC fun K14 hK14=>sg 2 kj <| QbM (ints .u8 ([104,105])) 5 2 29 rfl kj kj fun g15 W10 l15 e10 r15_10=>Qlz (xs:=[104,105]) 24 5 (.tmp 29) 30 rfl rfl kj kj kj kj rfl (show 2≤maxLen by decide) r15_10 fun W11 p11 r15_11 rd16=>?_
  have r11_9:=(Qaa rs11 e9)
  have r3_9:=(Qaa r3_8 e9)
  have r3_11:=(rpn p11 r3_9 e10 l15)
  have r4_9:=(Qaa r4_8 e9)
  have r4_11:=(rpn p11 r4_9 e10 l15)
  have r2_9:=(Qaa r2_8 e9)
  have r2_11:=(rpn p11 r2_9 e10 l15)
  have r1_9:=(Qaa r1_8 e9)
  have r1_11:=(rpn p11 r1_9 e10 l15)
  refine Qaw (fun v W'=>∃ u,v=.tuple #[u,.nilIface]∧OwnN .u8 5 W11.heap.size (pubL nX_++fs1) u W'∧ExtB gs11 W11 W'∧W'.heap[gs11]? = some (.cells (HR mk2 true 1 mc2 (dig (mh1++fs1)) true nA_ (pubL nA_) (pubL nB_) 1 nX_ (zae 32 0)) 76)) 13 #[.pointer (some ⟨gs11,0,none⟩),.agg (ints .u8 (nX_)),.slice (some ⟨g15,0,none⟩) 2 2] 31 rfl kj kj ((QmN gs11 (zae 32 0) nd nn3 nA_ (pubL nA_) (pubL nB_) (zae 32 0) (zae 32 0) false 0 nX_ [104,105] mh1 mk1 mc1 mk2 mc2 fs1 tc tq th tr _ (qZ (n:=32)) hndl hnn3l hsal (Qat nA_) (Qat nB_) (qZ (n:=32)) (qZ (n:=32)) hndb hnn3b hsab (QaP _) (QaP _) z32b z32b hsxl hsxb (Qbc hsxl hsxb hsbl hsbb).2 (Qbc hsal hsab hsbl hsbb).2 emh1 emc1 emk1 emc2 emk2 ef1 hptl _ (fun W e=>zaZ (RdK.extN rd16 e (fun q=>(Qap r11_9 l15) (Option.some.inj q)))) ⟨r3_11,r4_11,r2_11,r1_11⟩ (Qad r3_7 ls11) (Qad r4_7 ls11) (Qad r2_7 ls11) (Qad r1_7 ls11) (rpn p11 r11_9 e10 l15)).mono (by rintro e w' ⟨u,rfl,h1,h2,h3⟩; exact ⟨_,rfl,u,rfl,h1,h2,h3⟩)) fun v W12 h17=>?_
  obtain ⟨u17_,rfl,hu17_,q12,r11_12⟩:=h17
  obtain ⟨a17_,c17_,rfl,-⟩:=id (zaY hu17_)
  rw [←emi1] at r11_12
  refine sg 5 kj <| sgN hK14 <| wp_seq_k fun K18 hK18=>sgC fun K19 hK19=>sg 5 kj <| Qac (.bool false) 39 rfl kj (Qam (u:=.bool (((((pubL nX_++fs1).length:Nat):Int) != 50))) kj (congrArg za6 (bne_eq_false_iff_eq.2 (by rw [zap,Qat,lfs1]; rfl)))) ?_
  refine sg 1 kj <| sgN hK19 <| cond_false kj <| wp_skip <| hK18 _ _ <| sgC fun K20 hK20=>sg 2 kj ?_
  have r13_11:=(rpn p11 rs13 e10 l15)
  have r3_12:=(zaT q12 r3_11 (Qad r3_7 ls11))
  have r4_12:=(zaT q12 r4_11 (Qad r4_7 ls11))
  have r2_12:=(zaT q12 r2_11 (Qad r2_7 ls11))
  have r1_12:=(zaT q12 r1_11 (Qad r1_7 ls11))
  refine Qaw (fun v W'=>∃ u,v=.tuple #[u,.nilIface]∧OwnN .u8 5 W12.heap.size ([104,105]) u W'∧ExtB gs13 W12 W'∧W'.heap[gs13]? = some (.cells (HR mk2 true 1 mc2 (dig (mh1++fs1)) false nB_ (pubL nB_) (pubL nA_) 1 (zae 32 0) (pubL nX_)) 76)) 15 #[.pointer (some ⟨gs13,0,none⟩),.slice a17_ ((pubL nX_++fs1).length) c17_] 44 rfl kj kj ((Qo4 gs13 (zae 32 0) nd nn3 nB_ (pubL nB_) (pubL nA_) (zae 32 0) (zae 32 0) false 0 (pubL nX_) [104,105] mh1 mk1 mc1 mk2 mc2 fs1 (pubL nX_++fs1) tc tq th tr _ (qZ (n:=32)) hndl hnn3l hsbl (Qat nB_) (Qat nA_) (qZ (n:=32)) (qZ (n:=32)) hndb hnn3b hsbb (QaP _) (QaP _) z32b z32b (Qat _) (QaP _) (Qbc hsbl hsbb hsxl hsxb).2 (Qbc hsbl hsbb hsal hsab).2 emh1 emc1' emk1' emc2' emk2' ef1 hptb hptl rfl _ (fun W e=>zaY (QcY hu17_ e (Qei hu17_ (Qa7 r13_11)))) ⟨r3_12,r4_12,r2_12,r1_12⟩ (Qad r3_8 ls13) (Qad r4_8 ls13) (Qad r2_8 ls13) (Qad r1_8 ls13) (zaT q12 r13_11 (Qap rs11 ls13))).mono (by rintro e w' ⟨u,rfl,h1,h2,h3⟩; exact ⟨_,rfl,u,rfl,h1,h2,h3⟩)) fun v W13 h21=>?_
  obtain ⟨u21_,rfl,hu21_,q13,r13_13⟩:=h21
  obtain ⟨a21_,c21_,rfl,-⟩:=id (zaY hu21_)
  rw [←emi1] at r13_13
  refine sg 5 kj <| sgN hK20 <| wp_seq_k fun K22 hK22=>sgC fun K23 hK23=>sg 4 kj <| Qac (.string (QeN [104,105])) 51 rfl kj (Qgk (.tmp 50) (.slice a21_ (([104,105]).length) c21_) rfl rfl [104,105] (RdK.bytes (zaY hu21_) hptb)) <| sg 2 kj <| sgN hK23 <| cond_false kj <| wp_skip ?_
  refine hK22 _ _ <| sgC fun K24 hK24=>sg 2 kj ?_
  have r3_13:=(zaT q13 r3_12 (Qad r3_8 ls13))
  have r4_13:=(zaT q13 r4_12 (Qad r4_8 ls13))
  have r2_13:=(zaT q13 r2_12 (Qad r2_8 ls13))
  have r1_13:=(zaT q13 r1_12 (Qad r1_8 ls13))
  refine Qaw (fun v W'=>∃ u,v=.tuple #[u,.nilIface]∧OwnN .u8 5 W13.heap.size (pubL nY_++fs2) u W'∧ExtB gs13 W13 W'∧W'.heap[gs13]? = some (.cells (HR mk4 true 1 mc4 (dig (mh2++fs2)) false nB_ (pubL nB_) (pubL nA_) 2 (zae 32 0) (pubL nX_)) 76)) 13 #[.pointer (some ⟨gs13,0,none⟩),.agg (ints .u8 (nY_)),.slice none 0 0] 57 rfl kj kj ((QmM gs13 mk2 mc2 mi1 nB_ (pubL nB_) (pubL nA_) (zae 32 0) (pubL nX_) true 1 nY_ ([]:List Int) mh2 mk3 mc3 mk4 mc4 fs2 tc tq th tr _ hmk2l hmc2l hmi1l hsbl (Qat nB_) (Qat nA_) (qZ (n:=32)) (Qat nX_) hmc2b hmi1b hsbb (QaP _) (QaP _) z32b (QaP _) hsyl hsyb (Qbc hsyl hsyb hsal hsab).2 (Qbc hsyl hsyb hsxl hsxb).2 emh2 emc3 emk3 emc4 emk4 ef2 hqtl _ (fun W _=>Qhq W) ⟨r3_13,r4_13,r2_13,r1_13⟩ (Qad r3_8 ls13) (Qad r4_8 ls13) (Qad r2_8 ls13) (Qad r1_8 ls13) r13_13).mono (by rintro e w' ⟨u,rfl,h1,h2,h3⟩; exact ⟨_,rfl,u,rfl,h1,h2,h3⟩)) fun v W14 h25=>?_
  obtain ⟨u25_,rfl,hu25_,q14,r13_14⟩:=h25
  obtain ⟨a25_,c25_,rfl,-⟩:=id (zaY hu25_)
  rw [←emi2] at r13_14
  refine sg 5 kj <| sgN hK24 <| wp_seq_k fun K26 hK26=>sgB kj <| cond_false kj <| wp_skip <| hK26 _ _ <| sgC fun K28 hK28=>sg 2 kj ?_
  have r11_13:=(zaT q13 r11_12 (Qad rs11 ls13))
  have r3_14:=(zaT q14 r3_13 (Qad r3_8 ls13))
  have r4_14:=(zaT q14 r4_13 (Qad r4_8 ls13))
  have r2_14:=(zaT q14 r2_13 (Qad r2_8 ls13))
  have r1_14:=(zaT q14 r1_13 (Qad r1_8 ls13))
  refine Qaw (fun v W'=>∃ u,v=.tuple #[u,.nilIface]∧OwnN .u8 5 W14.heap.size (([]:List Int)) u W'∧ExtB gs11 W14 W'∧W'.heap[gs11]? = some (.cells (HR mk4 true 1 mc4 (dig (mh2++fs2)) true nA_ (pubL nA_) (pubL nB_) 2 (zae 32 0) (pubL nY_)) 76)) 15 #[.pointer (some ⟨gs11,0,none⟩),.slice a25_ ((pubL nY_++fs2).length) c25_] 65 rfl kj kj ((Qo3 gs11 mk2 mc2 mi1 nA_ (pubL nA_) (pubL nB_) nX_ (zae 32 0) true 1 (pubL nY_) ([]:List Int) mh2 mk3 mc3 mk4 mc4 fs2 (pubL nY_++fs2) tc tq th tr _ hmk2l hmc2l hmi1l hsal (Qat nA_) (Qat nB_) hsxl (qZ (n:=32)) hmc2b hmi1b hsab (QaP _) (QaP _) hsxb z32b (Qat _) (QaP _) (Qbc hsal hsab hsyl hsyb).2 (Qbc hsxl hsxb hsyl hsyb).2 emh2 emc3' emk3' emc4' emk4' ef2 hqtb hqtl rfl _ (fun W e=>zaY (QcY hu25_ e (Qei hu25_ (Qa7 r11_13)))) ⟨r3_14,r4_14,r2_14,r1_14⟩ (Qad r3_7 ls11) (Qad r4_7 ls11) (Qad r2_7 ls11) (Qad r1_7 ls11) (zaT q14 r11_13 (Qad rs11 ls13))).mono (by rintro e w' ⟨u,rfl,h1,h2,h3⟩; exact ⟨_,rfl,u,rfl,h1,h2,h3⟩)) fun v W15 h29=>?_
  obtain ⟨u29_,rfl,hu29_,q15,r11_15⟩:=h29
  obtain ⟨a29_,c29_,rfl,-⟩:=id (zaY hu29_)
  rw [←emi2] at r11_15
  refine sg 4 kj <| sgN hK28 <| sgC fun K30 hK30=>sg 1 kj ?_
  have r3_15:=(zaT q15 r3_14 (Qad r3_7 ls11))
  have r4_15:=(zaT q15 r4_14 (Qad r4_7 ls11))
  have r2_15:=(zaT q15 r2_14 (Qad r2_7 ls11))
  have r1_15:=(zaT q15 r1_14 (Qad r1_7 ls11))
  refine Qas (.tuple #[.agg (ints .u8 (twA mc4)),.agg (ints .u8 (twB mc4)),.nilIface]) 23 #[.pointer (some ⟨gs11,0,none⟩)] 70 rfl kj kj (QiN gs11 mk4 mc4 mi2 nA_ (pubL nA_) (pubL nB_) (zae 32 0) (pubL nY_) true 1 tc tq th tr _ hmk4l hmc4l hmi2l hsal (Qat nA_) (Qat nB_) (qZ (n:=32)) (Qat nY_) hmc4b ⟨r3_15,r4_15,r2_15,r1_15⟩ r11_15) fun W16 e16=>?_
  have x16:=zaQ (zaU (zaU (zaU (zaU (zaP p11 (zaQ x9 e10) (qT x9.size l15)) q12 bs11) q13 bs13) q14 bs13) q15 bs11) e16
  refine sg 4 kj <| Qak (ints .u8 (zae 32 0)) 23 8 rfl kj kj fun g31 W17 l31 e17 r31_17=>?_
  have x17:=zaQ x16 e17
  refine Qak (ints .u8 (zae 32 0)) 23 9 rfl kj kj fun g32 W18 l32 e18 r32_18=>?_
  have r31_18:=(Qaa r31_17 e18)
  refine Qai g31 _ (ints .u8 (twA mc4)) 23 r31_18 rfl kj (Qag 23 _ _ g31 23 _ _ r31_18 rfl kj kj (isz (n:=32) kj (izT (QaJ _))) (eqsz (n:=32) (izT (qZ (n:=32))) (izT (QaJ _))) (ints_one _ _)) fun W19 p19 r31_19=>?_
  have r32_19:=(zaO p19 r32_18 (Qap r31_17 l32))
  refine Qai g32 _ (ints .u8 (twB mc4)) 23 r32_19 rfl kj (Qag 23 _ _ g32 23 _ _ r32_19 rfl kj kj (isz (n:=32) kj (izT (QaN _))) (eqsz (n:=32) (izT (qZ (n:=32))) (izT (QaN _))) (ints_one _ _)) fun W20 p20 r32_20=>sg 1 kj <| sgN hK30 <| sgC fun K33 hK33=>sg 1 kj ?_
  have r3_16:=(Qaa r3_15 e16)
  have r3_17:=(Qaa r3_16 e17)
  have r4_16:=(Qaa r4_15 e16)
  have r4_17:=(Qaa r4_16 e17)
  have r2_16:=(Qaa r2_15 e16)
  have r2_17:=(Qaa r2_16 e17)
  have r1_16:=(Qaa r1_15 e16)
  have r1_17:=(Qaa r1_16 e17)
  have r13_16:=(Qaa (zaT q15 r13_14 (Qap rs11 ls13)) e16)
  have r13_17:=(Qaa r13_16 e17)
  refine Qas (.tuple #[.agg (ints .u8 (twB mc4)),.agg (ints .u8 (twA mc4)),.nilIface]) 23 #[.pointer (some ⟨gs13,0,none⟩)] 76 rfl kj kj (Qhg gs13 mk4 mc4 mi2 nB_ (pubL nB_) (pubL nA_) (zae 32 0) (pubL nX_) true 1 tc tq th tr _ hmk4l hmc4l hmi2l hsbl (Qat nB_) (Qat nA_) (qZ (n:=32)) (Qat nX_) hmc4b ⟨(zaO p20 (zaO p19 (Qaa r3_17 e18) (Qad r3_16 l31)) (Qad r3_17 l32)),(zaO p20 (zaO p19 (Qaa r4_17 e18) (Qad r4_16 l31)) (Qad r4_17 l32)),(zaO p20 (zaO p19 (Qaa r2_17 e18) (Qad r2_16 l31)) (Qad r2_17 l32)),(zaO p20 (zaO p19 (Qaa r1_17 e18) (Qad r1_16 l31)) (Qad r1_17 l32))⟩ (zaO p20 (zaO p19 (Qaa r13_17 e18) (Qad r13_16 l31)) (Qad r13_17 l32))) fun W21 e21=>?_
  have x21:=zaQ (zaP p20 (zaP p19 (zaQ x17 e18) (qT x16.size l31)) (qT x17.size l32)) e21
  refine sg 4 kj <| Qak (ints .u8 (zae 32 0)) 23 11 rfl kj kj fun g34 W22 l34 e22 r34_22=>?_
  have x22:=zaQ x21 e22
  refine Qak (ints .u8 (zae 32 0)) 23 12 rfl kj kj fun g35 W23 l35 e23 r35_23=>?_
  have r34_23:=(Qaa r34_22 e23)
  refine Qai g34 _ (ints .u8 (twB mc4)) 23 r34_23 rfl kj (Qag 23 _ _ g34 23 _ _ r34_23 rfl kj kj (isz (n:=32) kj (izT (QaN _))) (eqsz (n:=32) (izT (qZ (n:=32))) (izT (QaN _))) (ints_one _ _)) fun W24 p24 r34_24=>?_
  have r35_24:=(zaO p24 r35_23 (Qap r34_22 l35))
  refine Qai g35 _ (ints .u8 (twA mc4)) 23 r35_24 rfl kj (Qag 23 _ _ g35 23 _ _ r35_24 rfl kj kj (isz (n:=32) kj (izT (QaJ _))) (eqsz (n:=32) (izT (qZ (n:=32))) (izT (QaJ _))) (ints_one _ _)) fun W25 p25 r35_25=>sg 1 kj <| sgN hK33 <| sgC fun K36 hK36=>sg 11 kj ?_
  have r31_21:=(Qaa (zaO p20 r31_19 (Qad r31_17 l32)) e21)
  have r31_22:=(Qaa r31_21 e22)
  refine Qac (.agg (ints .u8 (twA mc4))) 91 rfl kj (Qae 23 _ g31 23 _ _ (zaO p25 (zaO p24 (Qaa r31_22 e23) (Qad r31_21 l34)) (Qad r31_22 l35)) rfl kj kj (isz (n:=32) kj (izT (QaJ _)))) <| Qac (.agg (ints .u8 (twA mc4))) 92 rfl kj (Qae 23 _ g35 23 _ _ r35_25 rfl kj kj (isz (n:=32) kj (izT (QaJ _)))) <| Qac (.bool true) 93 rfl kj (QdW 23 _ _ _ _ _ (.bool true) rfl kj kj kj (Qfj 23 (e:=5) (k:=.u8) (twA mc4) (twA mc4) (decide_eq_true rfl) (QaJ _) (QaJ _) kj kj kj _)) <| sg 2 kj <| sgN hK36 <| wp_ret ?_
  exact (show bodyPost _ _ _ .ret _ _ from ret1 (.bool true) rfl (Qa4 kj) ⟨rfl,(zaP p25 (zaP p24 (zaQ x22 e23) (qT x21.size l34)) (qT x22.size l35))⟩)
end No
end
section
namespace No
open Go Go.RowKit
open Rely Auto Own Sha
open Cha
open Ae hiding run_storeQ
open Ll hiding run_storeQ
open Ci Wk
open Field (Qav pubL agN Qat Qbc QaE Qbk)
set_option maxRecDepth 100000 in
theorem QoL (sa sb sx sy pt qt pro:List Int) (hsal:sa.length=32) (hsab:Qaf sa) (hsbl:sb.length=32) (hsbb:Qaf sb) (hsxl:sx.length=32) (hsxb:Qaf sx) (hsyl:sy.length=32) (hsyb:Qaf sy) (hptb:Qaf pt) (hqtb:Qaf qt) (hprb:Qaf pro) (tc tq th tr:TypeId) (w:World) (hT:Tabs tc tq th tr w) (a_p:Option Addr) (c_p:Nat) (hp:RdK .u8 w.heap.size pt (.slice a_p pt.length c_p) w) (a_q:Option Addr) (c_q:Nat) (hq:RdK .u8 w.heap.size qt (.slice a_q qt.length c_q) w) (a_r:Option Addr) (c_r:Nat) (hr:RdK .u8 w.heap.size pro (.slice a_r pro.length c_r) w) (hl:1024<pt.length) :
    Calls Tryz.prog 4 #[.agg (cat [ints .u8 sa,ints .u8 sb,ints .u8 sx,ints .u8 sy,#[.slice a_p pt.length c_p],#[.slice a_q qt.length c_q],#[.slice a_r pro.length c_r]])] w (Ret w (.bool true)):=by
  have hc4:=hT.c
  have hq4:=hT.q
  have hh4:=hT.h
  have hr4:=hT.r
  refine enter 149 [(0,.agg (cat [ints .u8 (sa),ints .u8 (sb),ints .u8 (sx),ints .u8 (sy),#[.slice a_p pt.length c_p],#[.slice a_q qt.length c_q],#[.slice a_r pro.length c_r]]))] Tryz.func4 rfl rfl kj rfl <| sgC fun K5 hK5=>Qak (cat [ints .u8 (sa),ints .u8 (sb),ints .u8 (sx),ints .u8 (sy),#[.slice a_p pt.length c_p],#[.slice a_q qt.length c_q],#[.slice a_r pro.length c_r]]) 63 1 rfl kj kj fun g6 W1 l6 e1 r6_1=>?_
  have b6:=qT (zaM w).size l6
  refine sg 1 kj <| sgN hK5 <| wp_seq_k fun K7 hK7=>sgC fun K8 hK8=>Qas (.bool true) 7 #[] 17 rfl kj kj (QhK tc tq th tr _ ⟨(Qaa hc4 e1),(Qaa hq4 e1),(Qaa hh4 e1),(Qaa hr4 e1)⟩) fun W2 e2=>sg 1 kj <| sgN hK8 <| cond_false kj <| wp_skip <| hK7 _ _ ?_
  refine wp_seq_k fun K9 hK9=>sgC fun K10 hK10=>sg 1 kj <| Qac (.slice a_p pt.length c_p) 20 rfl kj (Qaj 24 _ g6 128 63 _ (.slice a_p pt.length c_p) _ (Qaa r6_1 e2) rfl kj (Qaq [ints .u8 (sa),ints .u8 (sb),ints .u8 (sx),ints .u8 (sy)] [#[.slice a_p pt.length c_p]] [#[.slice a_q qt.length c_q],#[.slice a_r pro.length c_r]] 128 (by rw [Qab,Qab,Qab,Qab]; simp only [qS,cat,(izT hsal),(izT hsbl),(izT hsxl),(izT hsyl)]; rfl) 0 _ rfl) kj) ?_
  refine sg 1 kj <| Qac (.bool true) 22 rfl kj (Qam (u:=.bool (decide (((pt.length:Nat):Int)>1024))) kj (congrArg za6 (decide_eq_true (by omega)))) <| sg 12 kj <| sgN hK10 <| cond_true kj <| sgB kj <| wp_ret ?_
  exact (show bodyPost _ _ _ .ret _ _ from ret1 (.bool true) rfl (Qa4 kj) ⟨rfl,(zaQ (zaQ (zaM w) e1) e2)⟩)
set_option maxRecDepth 100000 in
theorem QoK (sa sb sx sy pt qt pro:List Int) (hsal:sa.length=32) (hsab:Qaf sa) (hsbl:sb.length=32) (hsbb:Qaf sb) (hsxl:sx.length=32) (hsxb:Qaf sx) (hsyl:sy.length=32) (hsyb:Qaf sy) (hptb:Qaf pt) (hqtb:Qaf qt) (hprb:Qaf pro) (tc tq th tr:TypeId) (w:World) (hT:Tabs tc tq th tr w) (a_p:Option Addr) (c_p:Nat) (hp:RdK .u8 w.heap.size pt (.slice a_p pt.length c_p) w) (a_q:Option Addr) (c_q:Nat) (hq:RdK .u8 w.heap.size qt (.slice a_q qt.length c_q) w) (a_r:Option Addr) (c_r:Nat) (hr:RdK .u8 w.heap.size pro (.slice a_r pro.length c_r) w) (hptl:pt.length≤1024) (hl:1024<qt.length) :
    Calls Tryz.prog 4 #[.agg (cat [ints .u8 sa,ints .u8 sb,ints .u8 sx,ints .u8 sy,#[.slice a_p pt.length c_p],#[.slice a_q qt.length c_q],#[.slice a_r pro.length c_r]])] w (Ret w (.bool true)):=by
  have hc4:=hT.c
  have hq4:=hT.q
  have hh4:=hT.h
  have hr4:=hT.r
  refine enter 149 [(0,.agg (cat [ints .u8 (sa),ints .u8 (sb),ints .u8 (sx),ints .u8 (sy),#[.slice a_p pt.length c_p],#[.slice a_q qt.length c_q],#[.slice a_r pro.length c_r]]))] Tryz.func4 rfl rfl kj rfl <| sgC fun K5 hK5=>Qak (cat [ints .u8 (sa),ints .u8 (sb),ints .u8 (sx),ints .u8 (sy),#[.slice a_p pt.length c_p],#[.slice a_q qt.length c_q],#[.slice a_r pro.length c_r]]) 63 1 rfl kj kj fun g6 W1 l6 e1 r6_1=>?_
  have b6:=qT (zaM w).size l6
  refine sg 1 kj <| sgN hK5 <| wp_seq_k fun K7 hK7=>sgC fun K8 hK8=>Qas (.bool true) 7 #[] 17 rfl kj kj (QhK tc tq th tr _ ⟨(Qaa hc4 e1),(Qaa hq4 e1),(Qaa hh4 e1),(Qaa hr4 e1)⟩) fun W2 e2=>sg 1 kj <| sgN hK8 <| cond_false kj <| wp_skip <| hK7 _ _ ?_
  refine wp_seq_k fun K9 hK9=>sgC fun K10 hK10=>sg 1 kj ?_
  have r6_2:=(Qaa r6_1 e2)
  refine Qac (.slice a_p pt.length c_p) 20 rfl kj (Qaj 24 _ g6 128 63 _ (.slice a_p pt.length c_p) _ r6_2 rfl kj (Qaq [ints .u8 (sa),ints .u8 (sb),ints .u8 (sx),ints .u8 (sy)] [#[.slice a_p pt.length c_p]] [#[.slice a_q qt.length c_q],#[.slice a_r pro.length c_r]] 128 (by rw [Qab,Qab,Qab,Qab]; simp only [qS,cat,(izT hsal),(izT hsbl),(izT hsxl),(izT hsyl)]; rfl) 0 _ rfl) kj) ?_
  refine sg 1 kj <| Qac (.bool false) 22 rfl kj (Qam (u:=.bool (decide (((pt.length:Nat):Int)>1024))) kj (congrArg za6 (decide_eq_false (by omega)))) <| sg 2 kj <| Qac (.slice a_q qt.length c_q) 25 rfl kj (Qaj 24 _ g6 129 63 _ (.slice a_q qt.length c_q) _ r6_2 rfl kj (Qaq [ints .u8 (sa),ints .u8 (sb),ints .u8 (sx),ints .u8 (sy),#[.slice a_p pt.length c_p]] [#[.slice a_q qt.length c_q]] [#[.slice a_r pro.length c_r]] 129 (by rw [Qab,Qab,Qab,Qab,Qab]; simp only [qS,cat,(izT hsal),(izT hsbl),(izT hsxl),(izT hsyl)]; rfl) 0 _ rfl) kj) ?_
  refine sg 1 kj <| Qac (.bool true) 27 rfl kj (Qam (u:=.bool (decide (((qt.length:Nat):Int)>1024))) kj (congrArg za6 (decide_eq_true (by omega)))) <| sg 7 kj <| sgN hK10 <| cond_true kj <| sgB kj <| wp_ret ?_
  exact (show bodyPost _ _ _ .ret _ _ from ret1 (.bool true) rfl (Qa4 kj) ⟨rfl,(zaQ (zaQ (zaM w) e1) e2)⟩)
set_option maxRecDepth 100000 in
theorem QoJ (sa sb sx sy pt qt pro:List Int) (hsal:sa.length=32) (hsab:Qaf sa) (hsbl:sb.length=32) (hsbb:Qaf sb) (hsxl:sx.length=32) (hsxb:Qaf sx) (hsyl:sy.length=32) (hsyb:Qaf sy) (hptb:Qaf pt) (hqtb:Qaf qt) (hprb:Qaf pro) (tc tq th tr:TypeId) (w:World) (hT:Tabs tc tq th tr w) (a_p:Option Addr) (c_p:Nat) (hp:RdK .u8 w.heap.size pt (.slice a_p pt.length c_p) w) (a_q:Option Addr) (c_q:Nat) (hq:RdK .u8 w.heap.size qt (.slice a_q qt.length c_q) w) (a_r:Option Addr) (c_r:Nat) (hr:RdK .u8 w.heap.size pro (.slice a_r pro.length c_r) w) (hptl:pt.length≤1024) (hqtl:qt.length≤1024) (hl:1000<pro.length) :
    Calls Tryz.prog 4 #[.agg (cat [ints .u8 sa,ints .u8 sb,ints .u8 sx,ints .u8 sy,#[.slice a_p pt.length c_p],#[.slice a_q qt.length c_q],#[.slice a_r pro.length c_r]])] w (Ret w (.bool true)):=by
  have hc4:=hT.c
  have hq4:=hT.q
  have hh4:=hT.h
  have hr4:=hT.r
  refine enter 149 [(0,.agg (cat [ints .u8 (sa),ints .u8 (sb),ints .u8 (sx),ints .u8 (sy),#[.slice a_p pt.length c_p],#[.slice a_q qt.length c_q],#[.slice a_r pro.length c_r]]))] Tryz.func4 rfl rfl kj rfl <| sgC fun K5 hK5=>Qak (cat [ints .u8 (sa),ints .u8 (sb),ints .u8 (sx),ints .u8 (sy),#[.slice a_p pt.length c_p],#[.slice a_q qt.length c_q],#[.slice a_r pro.length c_r]]) 63 1 rfl kj kj fun g6 W1 l6 e1 r6_1=>?_
  have b6:=qT (zaM w).size l6
  refine sg 1 kj <| sgN hK5 <| wp_seq_k fun K7 hK7=>sgC fun K8 hK8=>Qas (.bool true) 7 #[] 17 rfl kj kj (QhK tc tq th tr _ ⟨(Qaa hc4 e1),(Qaa hq4 e1),(Qaa hh4 e1),(Qaa hr4 e1)⟩) fun W2 e2=>sg 1 kj <| sgN hK8 <| cond_false kj <| wp_skip <| hK7 _ _ ?_
  refine wp_seq_k fun K9 hK9=>sgC fun K10 hK10=>sg 1 kj ?_
  have r6_2:=(Qaa r6_1 e2)
  refine Qac (.slice a_p pt.length c_p) 20 rfl kj (Qaj 24 _ g6 128 63 _ (.slice a_p pt.length c_p) _ r6_2 rfl kj (Qaq [ints .u8 (sa),ints .u8 (sb),ints .u8 (sx),ints .u8 (sy)] [#[.slice a_p pt.length c_p]] [#[.slice a_q qt.length c_q],#[.slice a_r pro.length c_r]] 128 (by rw [Qab,Qab,Qab,Qab]; simp only [qS,cat,(izT hsal),(izT hsbl),(izT hsxl),(izT hsyl)]; rfl) 0 _ rfl) kj) ?_
  refine sg 1 kj <| Qac (.bool false) 22 rfl kj (Qam (u:=.bool (decide (((pt.length:Nat):Int)>1024))) kj (congrArg za6 (decide_eq_false (by omega)))) <| sg 2 kj <| Qac (.slice a_q qt.length c_q) 25 rfl kj (Qaj 24 _ g6 129 63 _ (.slice a_q qt.length c_q) _ r6_2 rfl kj (Qaq [ints .u8 (sa),ints .u8 (sb),ints .u8 (sx),ints .u8 (sy),#[.slice a_p pt.length c_p]] [#[.slice a_q qt.length c_q]] [#[.slice a_r pro.length c_r]] 129 (by rw [Qab,Qab,Qab,Qab,Qab]; simp only [qS,cat,(izT hsal),(izT hsbl),(izT hsxl),(izT hsyl)]; rfl) 0 _ rfl) kj) ?_
  refine sg 1 kj <| Qac (.bool false) 27 rfl kj (Qam (u:=.bool (decide (((qt.length:Nat):Int)>1024))) kj (congrArg za6 (decide_eq_false (by omega)))) <| sg 3 kj <| Qac (.slice a_r pro.length c_r) 31 rfl kj (Qaj 24 _ g6 130 63 _ (.slice a_r pro.length c_r) _ r6_2 rfl kj (Qaq [ints .u8 (sa),ints .u8 (sb),ints .u8 (sx),ints .u8 (sy),#[.slice a_p pt.length c_p],#[.slice a_q qt.length c_q]] [#[.slice a_r pro.length c_r]] [] 130 (by rw [Qab,Qab,Qab,Qab,Qab,Qab]; simp only [qS,cat,(izT hsal),(izT hsbl),(izT hsxl),(izT hsyl)]; rfl) 0 _ rfl) kj) ?_
  refine sg 1 kj <| Qac (.bool true) 33 rfl kj (Qam (u:=.bool (decide (((pro.length:Nat):Int)>1000))) kj (congrArg za6 (decide_eq_true (by omega)))) <| sg 1 kj <| sgN hK10 <| cond_true kj <| sgB kj <| wp_ret ?_
  exact (show bodyPost _ _ _ .ret _ _ from ret1 (.bool true) rfl (Qa4 kj) ⟨rfl,(zaQ (zaQ (zaM w) e1) e2)⟩)
set_option maxRecDepth 100000 in
theorem QoI (sa sb sx sy pt qt pro:List Int) (hsal:sa.length=32) (hsab:Qaf sa) (hsbl:sb.length=32) (hsbb:Qaf sb) (hsxl:sx.length=32) (hsxb:Qaf sx) (hsyl:sy.length=32) (hsyb:Qaf sy) (hptb:Qaf pt) (hqtb:Qaf qt) (hprb:Qaf pro) (tc tq th tr:TypeId) (w:World) (hT:Tabs tc tq th tr w) (a_p:Option Addr) (c_p:Nat) (hp:RdK .u8 w.heap.size pt (.slice a_p pt.length c_p) w) (a_q:Option Addr) (c_q:Nat) (hq:RdK .u8 w.heap.size qt (.slice a_q qt.length c_q) w) (a_r:Option Addr) (c_r:Nat) (hr:RdK .u8 w.heap.size pro (.slice a_r pro.length c_r) w) (hptl:pt.length≤1024) (hqtl:qt.length≤1024) (hprl:pro.length≤1000) :
    Calls Tryz.prog 4 #[.agg (cat [ints .u8 sa,ints .u8 sb,ints .u8 sx,ints .u8 sy,#[.slice a_p pt.length c_p],#[.slice a_q qt.length c_q],#[.slice a_r pro.length c_r]])] w (Ret w (.bool true)):=by
  obtain ⟨nd,end_⟩:∃ z,z=dig [78,111,105,115,101,95,75,75,95,50,53,53,49,57,95,67,104,97,67,104,97,80,111,108,121,95,83,72,65,50,53,54]:=⟨_,rfl⟩
  obtain ⟨nn1,en1⟩:∃ z,z=dig (nd++pro):=⟨_,rfl⟩
  obtain ⟨nn2,en2⟩:∃ z,z=dig (nn1++pubL sa):=⟨_,rfl⟩
  obtain ⟨nn3,en3⟩:∃ z,z=dig (nn2++pubL sb):=⟨_,rfl⟩
  have hndl:nd.length=32:=by rw [end_]; exact QaV _
  have hndb:Qaf nd:=by rw [end_]; exact Qbo _
  have hnn3l:nn3.length=32:=by rw [en3]; exact QaV _
  have hnn3b:Qaf nn3:=by rw [en3]; exact Qbo _
  have z32b:Qaf (zae 32 0):=fun x hx=>by
    obtain ⟨-,rfl⟩:=za7.1 hx
    exact ⟨by decide,by decide⟩
  obtain ⟨mh1,emh1⟩:∃ z,z=dig (nn3++pubL sx):=⟨_,rfl⟩
  obtain ⟨mc1,emc1⟩:∃ z,z=twA (hmac nd (Qav (agN sx (pubL sb)))):=⟨_,rfl⟩
  obtain ⟨mk1,emk1⟩:∃ z,z=twB (hmac nd (Qav (agN sx (pubL sb)))):=⟨_,rfl⟩
  have emc1':=emc1
  rw [(Qbc hsxl hsxb hsbl hsbb).1] at emc1'
  have emk1':=emk1
  rw [(Qbc hsxl hsxb hsbl hsbb).1] at emk1'
  obtain ⟨mc2,emc2⟩:∃ z,z=twA (hmac mc1 (Qav (agN sa (pubL sb)))):=⟨_,rfl⟩
  obtain ⟨mk2,emk2⟩:∃ z,z=twB (hmac mc1 (Qav (agN sa (pubL sb)))):=⟨_,rfl⟩
  have emc2':=emc2
  rw [(Qbc hsal hsab hsbl hsbb).1] at emc2'
  have emk2':=emk2
  rw [(Qbc hsal hsab hsbl hsbb).1] at emk2'
  have hmk2l:mk2.length=32:=by rw [emk2]; exact QaN _
  have hmc2l:mc2.length=32:=by rw [emc2]; exact QaJ _
  have hmc2b:Qaf mc2:=by rw [emc2]; exact QdK _
  obtain ⟨fs1,ef1⟩:∃ z,Qc0 mk2 (nonV 0) mh1 pt=z:=⟨_,rfl⟩
  have lfs1:fs1.length=(pt).length+16:=by rw [←ef1]; exact QbR _ _ _ _
  obtain ⟨mi1,emi1⟩:∃ z,z=dig (mh1++fs1):=⟨_,rfl⟩
  have hmi1l:mi1.length=32:=by rw [emi1]; exact QaV _
  have hmi1b:Qaf mi1:=by rw [emi1]; exact Qbo _
  obtain ⟨mh2,emh2⟩:∃ z,z=dig (mi1++pubL sy):=⟨_,rfl⟩
  obtain ⟨mc3,emc3⟩:∃ z,z=twA (hmac mc2 (Qav (agN sy (pubL sx)))):=⟨_,rfl⟩
  obtain ⟨mk3,emk3⟩:∃ z,z=twB (hmac mc2 (Qav (agN sy (pubL sx)))):=⟨_,rfl⟩
  have emc3':=emc3
  rw [(Qbc hsyl hsyb hsxl hsxb).1] at emc3'
  have emk3':=emk3
  rw [(Qbc hsyl hsyb hsxl hsxb).1] at emk3'
  obtain ⟨mc4,emc4⟩:∃ z,z=twA (hmac mc3 (Qav (agN sy (pubL sa)))):=⟨_,rfl⟩
  obtain ⟨mk4,emk4⟩:∃ z,z=twB (hmac mc3 (Qav (agN sy (pubL sa)))):=⟨_,rfl⟩
  have emc4':=emc4
  rw [(Qbc hsyl hsyb hsal hsab).1] at emc4'
  have emk4':=emk4
  rw [(Qbc hsyl hsyb hsal hsab).1] at emk4'
  have hmk4l:mk4.length=32:=by rw [emk4]; exact QaN _
  have hmc4l:mc4.length=32:=by rw [emc4]; exact QaJ _
  have hmc4b:Qaf mc4:=by rw [emc4]; exact QdK _
  obtain ⟨fs2,ef2⟩:∃ z,Qc0 mk4 (nonV 0) mh2 qt=z:=⟨_,rfl⟩
  have lfs2:fs2.length=(qt).length+16:=by rw [←ef2]; exact QbR _ _ _ _
  obtain ⟨mi2,emi2⟩:∃ z,z=dig (mh2++fs2):=⟨_,rfl⟩
  have hmi2l:mi2.length=32:=by rw [emi2]; exact QaV _
  have hmi2b:Qaf mi2:=by rw [emi2]; exact Qbo _
  have hc4:=hT.c
  have hq4:=hT.q
  have hh4:=hT.h
  have hr4:=hT.r
  refine enter 149 [(0,.agg (cat [ints .u8 (sa),ints .u8 (sb),ints .u8 (sx),ints .u8 (sy),#[.slice a_p pt.length c_p],#[.slice a_q qt.length c_q],#[.slice a_r pro.length c_r]]))] Tryz.func4 rfl rfl kj rfl <| sgC fun K5 hK5=>Qak (cat [ints .u8 (sa),ints .u8 (sb),ints .u8 (sx),ints .u8 (sy),#[.slice a_p pt.length c_p],#[.slice a_q qt.length c_q],#[.slice a_r pro.length c_r]]) 63 1 rfl kj kj fun g6 W1 l6 e1 r6_1=>?_
  have b6:=qT (zaM w).size l6
  refine sg 1 kj <| sgN hK5 <| wp_seq_k fun K7 hK7=>sgC fun K8 hK8=>?_
  have r3_1:=(Qaa hc4 e1)
  have r4_1:=(Qaa hq4 e1)
  have r2_1:=(Qaa hh4 e1)
  have r1_1:=(Qaa hr4 e1)
  refine Qas (.bool true) 7 #[] 17 rfl kj kj (QhK tc tq th tr _ ⟨r3_1,r4_1,r2_1,r1_1⟩) fun W2 e2=>?_
  have x2:=zaQ (zaQ (zaM w) e1) e2
  refine sg 1 kj <| sgN hK8 <| cond_false kj <| wp_skip <| hK7 _ _ <| wp_seq_k fun K9 hK9=>sgC fun K10 hK10=>sg 1 kj ?_
  have r6_2:=(Qaa r6_1 e2)
  refine Qac (.slice a_p pt.length c_p) 20 rfl kj (Qaj 24 _ g6 128 63 _ (.slice a_p pt.length c_p) _ r6_2 rfl kj (Qaq [ints .u8 (sa),ints .u8 (sb),ints .u8 (sx),ints .u8 (sy)] [#[.slice a_p pt.length c_p]] [#[.slice a_q qt.length c_q],#[.slice a_r pro.length c_r]] 128 (by rw [Qab,Qab,Qab,Qab]; simp only [qS,cat,(izT hsal),(izT hsbl),(izT hsxl),(izT hsyl)]; rfl) 0 _ rfl) kj) ?_
  refine sg 1 kj <| Qac (.bool false) 22 rfl kj (Qam (u:=.bool (decide (((pt.length:Nat):Int)>1024))) kj (congrArg za6 (decide_eq_false (by omega)))) <| sg 2 kj <| Qac (.slice a_q qt.length c_q) 25 rfl kj (Qaj 24 _ g6 129 63 _ (.slice a_q qt.length c_q) _ r6_2 rfl kj (Qaq [ints .u8 (sa),ints .u8 (sb),ints .u8 (sx),ints .u8 (sy),#[.slice a_p pt.length c_p]] [#[.slice a_q qt.length c_q]] [#[.slice a_r pro.length c_r]] 129 (by rw [Qab,Qab,Qab,Qab,Qab]; simp only [qS,cat,(izT hsal),(izT hsbl),(izT hsxl),(izT hsyl)]; rfl) 0 _ rfl) kj) ?_
  refine sg 1 kj <| Qac (.bool false) 27 rfl kj (Qam (u:=.bool (decide (((qt.length:Nat):Int)>1024))) kj (congrArg za6 (decide_eq_false (by omega)))) <| sg 3 kj <| Qac (.slice a_r pro.length c_r) 31 rfl kj (Qaj 24 _ g6 130 63 _ (.slice a_r pro.length c_r) _ r6_2 rfl kj (Qaq [ints .u8 (sa),ints .u8 (sb),ints .u8 (sx),ints .u8 (sy),#[.slice a_p pt.length c_p],#[.slice a_q qt.length c_q]] [#[.slice a_r pro.length c_r]] [] 130 (by rw [Qab,Qab,Qab,Qab,Qab,Qab]; simp only [qS,cat,(izT hsal),(izT hsbl),(izT hsxl),(izT hsyl)]; rfl) 0 _ rfl) kj) ?_
  refine sg 1 kj <| Qac (.bool false) 33 rfl kj (Qam (u:=.bool (decide (((pro.length:Nat):Int)>1000))) kj (congrArg za6 (decide_eq_false (by omega)))) <| sg 1 kj <| sgN hK10 <| cond_false kj <| wp_skip <| hK9 _ _ <| wp_seq_k fun K11 hK11=>QbV 8 [⟨none,[(1,none)]⟩,⟨none,[(35,some 0)]⟩,⟨none,[(36,some 1)]⟩,⟨none,[(1,none)]⟩,⟨none,[(38,some 3)]⟩,⟨none,[(39,some 4)]⟩,⟨none,[]⟩,⟨none,[]⟩] [6,7] kj kj kj fun F hF=>Qal (.pointer (some ⟨g6,0,none⟩)) kj kj (fun _=>kj) ?_
  refine Qax (.agg (ints .u8 (sa))) kj kj (fun W hR=>(Qan 23 _ g6 0 63 _ _ _ (Qaa (Qaa r6_2 (Qah _)) hR) rfl kj (Qaq [] [ints .u8 (sa)] [ints .u8 (sb),ints .u8 (sx),ints .u8 (sy),#[.slice a_p pt.length c_p],#[.slice a_q qt.length c_q],#[.slice a_r pro.length c_r]] 0 kj) kj (isz (n:=32) kj (izT hsal)))) <| QaI (.agg (cat [ints .u8 (sa),ints .u8 (pubL sa)])) 10 #[.agg (ints .u8 (sa))] kj kj (fun _=>kj) (fun W hR=>(Qnm sa hsal hsab) W) <| Qal (.pointer (some ⟨g6,32,none⟩)) kj kj (fun _=>kj) <| Qax (.agg (ints .u8 (sb))) kj kj (fun W hR=>(Qan 23 _ g6 32 63 _ _ _ (Qaa (Qaa r6_2 (Qah _)) hR) rfl kj (Qaq [ints .u8 (sa)] [ints .u8 (sb)] [ints .u8 (sx),ints .u8 (sy),#[.slice a_p pt.length c_p],#[.slice a_q qt.length c_q],#[.slice a_r pro.length c_r]] 32 (izT hsal)) kj (isz (n:=32) kj (izT hsbl)))) <| QaI (.agg (cat [ints .u8 (sb),ints .u8 (pubL sb)])) 10 #[.agg (ints .u8 (sb))] kj kj (fun _=>kj) (fun W hR=>(Qnm sb hsbl hsbb) W) <| Qcy (cat [ints .u8 (zae 32 0),ints .u8 (zae 32 0)]) 33 kj (qR _) kj (fun _=>kj) <| Qcy (cat [ints .u8 (zae 32 0),ints .u8 (zae 32 0)]) 33 kj (qR _) kj (fun _=>kj) <| QaH (hF _ kj fun W3 e3=>?_)
  simp only [fins,up,zar,zas,zat,zau,zag,zah]
  intro g12 l12 r12_3 n12 g13 l13 r13_3 n13
  have n13_12:g13≠g12:=n13 _ (by simp)
  clear hF
  refine Qai g12 _ (cat [ints .u8 (sa),ints .u8 (pubL sa)]) 33 r12_3 rfl kj (Qag 33 _ _ g12 33 _ _ r12_3 rfl kj kj (isz (n:=64) kj (by rw [Qab,Qab]; simp only [qS,cat,(izT (Qat sa)),(izT hsal)]; rfl)) (eqsz (n:=64) (by rw [Qab,Qab]; simp only [qS,cat,(izT (qZ (n:=32)))]; rfl) (by rw [Qab,Qab]; simp only [qS,cat,(izT (Qat sa)),(izT hsal)]; rfl)) (Qch _ (by intro a ha; simp only [zai,zaj,or_false] at ha; rcases ha with rfl | rfl; exact (ints_one _ _); exact (ints_one _ _)))) fun W4 p4 r12_4=>?_
  have r13_4:=(zaO p4 r13_3 n13_12)
  refine Qai g13 _ (cat [ints .u8 (sb),ints .u8 (pubL sb)]) 33 r13_4 rfl kj (Qag 33 _ _ g13 33 _ _ r13_4 rfl kj kj (isz (n:=64) kj (by rw [Qab,Qab]; simp only [qS,cat,(izT (Qat sb)),(izT hsbl)]; rfl)) (eqsz (n:=64) (by rw [Qab,Qab]; simp only [qS,cat,(izT (qZ (n:=32)))]; rfl) (by rw [Qab,Qab]; simp only [qS,cat,(izT (Qat sb)),(izT hsbl)]; rfl)) (Qch _ (by intro a ha; simp only [zai,zaj,or_false] at ha; rcases ha with rfl | rfl; exact (ints_one _ _); exact (ints_one _ _)))) fun W5 p5 r13_5=>?_
  refine sgN hK11 <| wp_seq_k fun K14 hK14=>QdC kj fun W6 e6=>?_
  have x6:=zaQ (zaP p5 (zaP p4 (zaQ x2 e3) (qT x2.size l12)) (qT x2.size l13)) e6
  have r12_6:=(Qaa (zaO p5 r12_4 (Ne.symm n13_12)) e6)
  refine QbF 0 (.agg (cat [ints .u8 (sa),ints .u8 (pubL sa)])) 41 rfl rfl kj kj (fun _ _ _ h=>h) (fun W hR=>(Qae 33 _ g12 33 _ _ (Qaa r12_6 hR) rfl kj kj (isz (n:=64) kj (by rw [Qab,Qab]; simp only [qS,cat,(izT (Qat sa)),(izT hsal)]; rfl)))) ?_
  refine QbF 1 (.pointer (some ⟨g13,32,none⟩)) 42 rfl rfl kj kj (fun _ _ _ h=>h) (fun W hR=>by kernel_rfl) ?_
  have r13_6:=(Qaa r13_5 e6)
  refine QbF 2 (.agg (ints .u8 (pubL sb))) 43 rfl rfl kj kj (fun _ _ _ h=>h) (fun W hR=>(Qan 23 _ g13 32 33 _ _ _ (Qaa r13_6 hR) rfl kj (Qaq [ints .u8 (sb)] [ints .u8 (pubL sb)] [] 32 (izT hsbl)) kj (isz (n:=32) kj (izT (Qat sb))))) <| QbF 3 (.pointer (some ⟨g6,130,none⟩)) 44 rfl rfl kj kj (fun _ _ _ h=>h) (fun W hR=>by kernel_rfl) ?_
  have r6_6:=(Qaa (zaO p5 (rpn p4 r6_2 e3 l12) (Qad r6_2 l13)) e6)
  refine QbF 4 (.slice a_r pro.length c_r) 45 rfl rfl kj kj (fun _ _ _ h=>h) (fun W hR=>(Qaj 24 _ g6 130 63 _ (.slice a_r pro.length c_r) _ (Qaa r6_6 hR) rfl kj (Qaq [ints .u8 (sa),ints .u8 (sb),ints .u8 (sx),ints .u8 (sy),#[.slice a_p pt.length c_p],#[.slice a_q qt.length c_q]] [#[.slice a_r pro.length c_r]] [] 130 (by rw [Qab,Qab,Qab,Qab,Qab,Qab]; simp only [qS,cat,(izT hsal),(izT hsbl),(izT hsxl),(izT hsyl)]; rfl) 0 _ rfl) kj)) ?_
  refine QbF 6 (.agg (cat [ints .u8 (sb),ints .u8 (pubL sb)])) 47 rfl rfl kj kj (fun _ _ _ h=>h) (fun W hR=>(Qae 33 _ g13 33 _ _ (Qaa r13_6 hR) rfl kj kj (isz (n:=64) kj (by rw [Qab,Qab]; simp only [qS,cat,(izT (Qat sb)),(izT hsbl)]; rfl)))) ?_
  refine QbF 7 (.pointer (some ⟨g12,32,none⟩)) 48 rfl rfl kj kj (fun _ _ _ h=>h) (fun W hR=>by kernel_rfl) <| QbF 8 (.agg (ints .u8 (pubL sa))) 49 rfl rfl kj kj (fun _ _ _ h=>h) (fun W hR=>(Qan 23 _ g12 32 33 _ _ _ (Qaa r12_6 hR) rfl kj (Qaq [ints .u8 (sa)] [ints .u8 (pubL sa)] [] 32 (izT hsal)) kj (isz (n:=32) kj (izT (Qat sa))))) <| QbF 9 (.pointer (some ⟨g6,130,none⟩)) 50 rfl rfl kj kj (fun _ _ _ h=>h) (fun W hR=>by kernel_rfl) <| QbF 10 (.slice a_r pro.length c_r) 51 rfl rfl kj kj (fun _ _ _ h=>h) (fun W hR=>(Qaj 24 _ g6 130 63 _ (.slice a_r pro.length c_r) _ (Qaa r6_6 hR) rfl kj (Qaq [ints .u8 (sa),ints .u8 (sb),ints .u8 (sx),ints .u8 (sy),#[.slice a_p pt.length c_p],#[.slice a_q qt.length c_q]] [#[.slice a_r pro.length c_r]] [] 130 (by rw [Qab,Qab,Qab,Qab,Qab,Qab]; simp only [qS,cat,(izT hsal),(izT hsbl),(izT hsxl),(izT hsyl)]; rfl) 0 _ rfl) kj)) ?_
  refine QeK 5 kj ?_
  have r3_2:=(Qaa r3_1 e2)
  have r3_6:=(Qaa (zaO p5 (rpn p4 r3_2 e3 l12) (Qad r3_2 l13)) e6)
  have r4_2:=(Qaa r4_1 e2)
  have r4_6:=(Qaa (zaO p5 (rpn p4 r4_2 e3 l12) (Qad r4_2 l13)) e6)
  have r2_2:=(Qaa r2_1 e2)
  have r2_6:=(Qaa (zaO p5 (rpn p4 r2_2 e3 l12) (Qad r2_2 l13)) e6)
  have r1_2:=(Qaa r1_1 e2)
  have r1_6:=(Qaa (zaO p5 (rpn p4 r1_2 e3 l12) (Qad r1_2 l13)) e6)
  refine Qe3 rfl (fun v W'=>(fun v W=>∃ g,v=.pointer (some ⟨g,0,none⟩)∧W6.heap.size≤g∧W.heap[g]? = some (.cells (HR (zae 32 0) false 0 nd nn3 true sa (pubL sa) (pubL sb) 0 (zae 32 0) (zae 32 0)) 76)) v W'∧Ext W6 W') 9 #[.bool true,.agg (cat [ints .u8 (sa),ints .u8 (pubL sa)]),.agg (ints .u8 (pubL sb)),.slice a_r pro.length c_r] 46 rfl kj kj ((Qks sa (pubL sa) (pubL sb) pro nd nn1 nn2 nn3 hsal (Qat _) (Qat _) (QaP _) (QaP _) hprb hprl tc tq th tr _ ⟨r3_6,r4_6,r2_6,r1_6⟩ _ _ (RdK.ext hr x6) end_ en1 en2 en3).mono (by rintro e w' ⟨v,rfl,e1,hv⟩; exact ⟨v,rfl,hv,e1⟩)) (fun _ _ h=>zaN (zaM W6) h.2) fun vv15 W7 hh15=>?_
  obtain ⟨hv15,e7⟩:=hh15
  have x7:=zaQ x6 e7
  obtain ⟨gs16,rfl,ls16,rs16⟩:=hv15
  have bs16:=qT x6.size ls16
  refine QeK 11 kj ?_
  have r3_7:=(Qaa r3_6 e7)
  have r4_7:=(Qaa r4_6 e7)
  have r2_7:=(Qaa r2_6 e7)
  have r1_7:=(Qaa r1_6 e7)
  refine Qe3 rfl (fun v W'=>(fun v W=>∃ g,v=.pointer (some ⟨g,0,none⟩)∧W7.heap.size≤g∧W.heap[g]? = some (.cells (HR (zae 32 0) false 0 nd nn3 false sb (pubL sb) (pubL sa) 0 (zae 32 0) (zae 32 0)) 76)) v W'∧Ext W7 W') 9 #[.bool false,.agg (cat [ints .u8 (sb),ints .u8 (pubL sb)]),.agg (ints .u8 (pubL sa)),.slice a_r pro.length c_r] 52 rfl kj kj ((QiM sb (pubL sb) (pubL sa) pro nd nn1 nn2 nn3 hsbl (Qat _) (Qat _) (QaP _) (QaP _) hprb hprl tc tq th tr _ ⟨r3_7,r4_7,r2_7,r1_7⟩ _ _ (RdK.ext hr x7) end_ en1 en2 en3).mono (by rintro e w' ⟨v,rfl,e1,hv⟩; exact ⟨v,rfl,hv,e1⟩)) (fun _ _ h=>zaN (zaN (zaM W6) e7) h.2) fun vv17 W8 hh17=>?_
  obtain ⟨hv17,e8⟩:=hh17
  have x8:=zaQ x7 e8
  obtain ⟨gs18,rfl,ls18,rs18⟩:=hv17
  have bs18:=qT x7.size ls18
  refine QbF 12 (.pointer (some ⟨gs16,0,none⟩)) 5 rfl rfl kj kj (fun _ _ _ h=>h) (fun W hR=>by kernel_rfl) <| QbF 13 (.pointer (some ⟨gs18,0,none⟩)) 6 rfl rfl kj kj (fun _ _ _ h=>h) (fun W hR=>by kernel_rfl) <| Qj9 kj <| hK14 _ _ <| sgC fun K19 hK19=>sg 2 kj ?_
  have r6_7:=(Qaa r6_6 e7)
  have r6_8:=(Qaa r6_7 e8)
  refine Qac (.agg (ints .u8 (sx))) 56 rfl kj (Qan 23 _ g6 64 63 _ _ _ r6_8 rfl kj (Qaq [ints .u8 (sa),ints .u8 (sb)] [ints .u8 (sx)] [ints .u8 (sy),#[.slice a_p pt.length c_p],#[.slice a_q qt.length c_q],#[.slice a_r pro.length c_r]] 64 (by rw [Qab,Qab]; simp only [qS,cat,(izT hsal),(izT hsbl)]; rfl)) kj (isz (n:=32) kj (izT hsxl))) ?_
  refine sg 1 kj <| Qac (.slice a_p pt.length c_p) 58 rfl kj (Qaj 24 _ g6 128 63 _ (.slice a_p pt.length c_p) _ r6_8 rfl kj (Qaq [ints .u8 (sa),ints .u8 (sb),ints .u8 (sx),ints .u8 (sy)] [#[.slice a_p pt.length c_p]] [#[.slice a_q qt.length c_q],#[.slice a_r pro.length c_r]] 128 (by rw [Qab,Qab,Qab,Qab]; simp only [qS,cat,(izT hsal),(izT hsbl),(izT hsxl),(izT hsyl)]; rfl) 0 _ rfl) kj) ?_
  have r3_8:=(Qaa r3_7 e8)
  have r4_8:=(Qaa r4_7 e8)
  have r2_8:=(Qaa r2_7 e8)
  have r1_8:=(Qaa r1_7 e8)
  refine Qaw (fun v W'=>∃ u,v=.tuple #[u,.nilIface]∧OwnN .u8 5 W8.heap.size (pubL sx++fs1) u W'∧ExtB gs16 W8 W'∧W'.heap[gs16]? = some (.cells (HR mk2 true 1 mc2 (dig (mh1++fs1)) true sa (pubL sa) (pubL sb) 1 sx (zae 32 0)) 76)) 13 #[.pointer (some ⟨gs16,0,none⟩),.agg (ints .u8 (sx)),.slice a_p pt.length c_p] 59 rfl kj kj ((QmN gs16 (zae 32 0) nd nn3 sa (pubL sa) (pubL sb) (zae 32 0) (zae 32 0) false 0 sx pt mh1 mk1 mc1 mk2 mc2 fs1 tc tq th tr _ (qZ (n:=32)) hndl hnn3l hsal (Qat sa) (Qat sb) (qZ (n:=32)) (qZ (n:=32)) hndb hnn3b hsab (QaP _) (QaP _) z32b z32b hsxl hsxb (Qbc hsxl hsxb hsbl hsbb).2 (Qbc hsal hsab hsbl hsbb).2 emh1 emc1 emk1 emc2 emk2 ef1 hptl _ (fun W e=>zaZ (RdK.extB (RdK.ext hp x8) e bs16)) ⟨r3_8,r4_8,r2_8,r1_8⟩ (Qad r3_6 ls16) (Qad r4_6 ls16) (Qad r2_6 ls16) (Qad r1_6 ls16) (Qaa rs16 e8)).mono (by rintro e w' ⟨u,rfl,h1,h2,h3⟩; exact ⟨_,rfl,u,rfl,h1,h2,h3⟩)) fun v W9 h20=>?_
  obtain ⟨u20_,rfl,hu20_,q9,r16_9⟩:=h20
  obtain ⟨a20_,c20_,rfl,-⟩:=id (zaY hu20_)
  rw [←emi1] at r16_9
  refine sg 5 kj <| sgN hK19 <| wp_seq_k fun K21 hK21=>sgB kj <| cond_false kj <| wp_skip <| hK21 _ _ <| sgC fun K23 hK23=>sg 2 kj ?_
  have r3_9:=(zaT q9 r3_8 (Qad r3_6 ls16))
  have r4_9:=(zaT q9 r4_8 (Qad r4_6 ls16))
  have r2_9:=(zaT q9 r2_8 (Qad r2_6 ls16))
  have r1_9:=(zaT q9 r1_8 (Qad r1_6 ls16))
  refine Qaw (fun v W'=>∃ u,v=.tuple #[u,.nilIface]∧OwnN .u8 5 W9.heap.size (pt) u W'∧ExtB gs18 W9 W'∧W'.heap[gs18]? = some (.cells (HR mk2 true 1 mc2 (dig (mh1++fs1)) false sb (pubL sb) (pubL sa) 1 (zae 32 0) (pubL sx)) 76)) 15 #[.pointer (some ⟨gs18,0,none⟩),.slice a20_ ((pubL sx++fs1).length) c20_] 67 rfl kj kj ((Qo4 gs18 (zae 32 0) nd nn3 sb (pubL sb) (pubL sa) (zae 32 0) (zae 32 0) false 0 (pubL sx) pt mh1 mk1 mc1 mk2 mc2 fs1 (pubL sx++fs1) tc tq th tr _ (qZ (n:=32)) hndl hnn3l hsbl (Qat sb) (Qat sa) (qZ (n:=32)) (qZ (n:=32)) hndb hnn3b hsbb (QaP _) (QaP _) z32b z32b (Qat _) (QaP _) (Qbc hsbl hsbb hsxl hsxb).2 (Qbc hsbl hsbb hsal hsab).2 emh1 emc1' emk1' emc2' emk2' ef1 hptb hptl rfl _ (fun W e=>zaY (QcY hu20_ e (Qei hu20_ (Qa7 rs18)))) ⟨r3_9,r4_9,r2_9,r1_9⟩ (Qad r3_7 ls18) (Qad r4_7 ls18) (Qad r2_7 ls18) (Qad r1_7 ls18) (zaT q9 rs18 (Qap rs16 ls18))).mono (by rintro e w' ⟨u,rfl,h1,h2,h3⟩; exact ⟨_,rfl,u,rfl,h1,h2,h3⟩)) fun v W10 h24=>?_
  obtain ⟨u24_,rfl,hu24_,q10,r18_10⟩:=h24
  have x10:=zaU (zaU x8 q9 bs16) q10 bs18
  obtain ⟨a24_,c24_,rfl,-⟩:=id (zaY hu24_)
  rw [←emi1] at r18_10
  refine sg 5 kj <| sgN hK23 <| wp_seq_k fun K25 hK25=>sgC fun K26 hK26=>sg 5 kj ?_
  have r6_10:=(zaT q10 (zaT q9 r6_8 (Qad r6_6 ls16)) (Qad r6_7 ls18))
  refine Qac (.slice a_p pt.length c_p) 75 rfl kj (Qaj 24 _ g6 128 63 _ (.slice a_p pt.length c_p) _ r6_10 rfl kj (Qaq [ints .u8 (sa),ints .u8 (sb),ints .u8 (sx),ints .u8 (sy)] [#[.slice a_p pt.length c_p]] [#[.slice a_q qt.length c_q],#[.slice a_r pro.length c_r]] 128 (by rw [Qab,Qab,Qab,Qab]; simp only [qS,cat,(izT hsal),(izT hsbl),(izT hsxl),(izT hsyl)]; rfl) 0 _ rfl) kj) ?_
  refine Qas (.bool true) 17 #[.slice a24_ ((pt).length) c24_,.slice a_p pt.length c_p] 76 rfl kj kj ((QpZ _ _ _ _ _ rfl (RdK.bytes (zaY hu24_) hptb) (RdK.bytes (RdK.ext hp x10) hptb))) fun W11 e11=>?_
  have x11:=zaQ x10 e11
  refine sg 2 kj <| sgN hK26 <| cond_false kj <| wp_skip <| hK25 _ _ <| sgC fun K27 hK27=>sg 2 kj ?_
  have r6_11:=(Qaa r6_10 e11)
  refine Qac (.agg (ints .u8 (sy))) 82 rfl kj (Qan 23 _ g6 96 63 _ _ _ r6_11 rfl kj (Qaq [ints .u8 (sa),ints .u8 (sb),ints .u8 (sx)] [ints .u8 (sy)] [#[.slice a_p pt.length c_p],#[.slice a_q qt.length c_q],#[.slice a_r pro.length c_r]] 96 (by rw [Qab,Qab,Qab]; simp only [qS,cat,(izT hsal),(izT hsbl),(izT hsxl)]; rfl)) kj (isz (n:=32) kj (izT hsyl))) ?_
  refine sg 1 kj <| Qac (.slice a_q qt.length c_q) 84 rfl kj (Qaj 24 _ g6 129 63 _ (.slice a_q qt.length c_q) _ r6_11 rfl kj (Qaq [ints .u8 (sa),ints .u8 (sb),ints .u8 (sx),ints .u8 (sy),#[.slice a_p pt.length c_p]] [#[.slice a_q qt.length c_q]] [#[.slice a_r pro.length c_r]] 129 (by rw [Qab,Qab,Qab,Qab,Qab]; simp only [qS,cat,(izT hsal),(izT hsbl),(izT hsxl),(izT hsyl)]; rfl) 0 _ rfl) kj) ?_
  have r3_11:=(Qaa (zaT q10 r3_9 (Qad r3_7 ls18)) e11)
  have r4_11:=(Qaa (zaT q10 r4_9 (Qad r4_7 ls18)) e11)
  have r2_11:=(Qaa (zaT q10 r2_9 (Qad r2_7 ls18)) e11)
  have r1_11:=(Qaa (zaT q10 r1_9 (Qad r1_7 ls18)) e11)
  refine Qaw (fun v W'=>∃ u,v=.tuple #[u,.nilIface]∧OwnN .u8 5 W11.heap.size (pubL sy++fs2) u W'∧ExtB gs18 W11 W'∧W'.heap[gs18]? = some (.cells (HR mk4 true 1 mc4 (dig (mh2++fs2)) false sb (pubL sb) (pubL sa) 2 (zae 32 0) (pubL sx)) 76)) 13 #[.pointer (some ⟨gs18,0,none⟩),.agg (ints .u8 (sy)),.slice a_q qt.length c_q] 85 rfl kj kj ((QmM gs18 mk2 mc2 mi1 sb (pubL sb) (pubL sa) (zae 32 0) (pubL sx) true 1 sy qt mh2 mk3 mc3 mk4 mc4 fs2 tc tq th tr _ hmk2l hmc2l hmi1l hsbl (Qat sb) (Qat sa) (qZ (n:=32)) (Qat sx) hmc2b hmi1b hsbb (QaP _) (QaP _) z32b (QaP _) hsyl hsyb (Qbc hsyl hsyb hsal hsab).2 (Qbc hsyl hsyb hsxl hsxb).2 emh2 emc3 emk3 emc4 emk4 ef2 hqtl _ (fun W e=>zaZ (RdK.extB (RdK.ext hq x11) e bs18)) ⟨r3_11,r4_11,r2_11,r1_11⟩ (Qad r3_7 ls18) (Qad r4_7 ls18) (Qad r2_7 ls18) (Qad r1_7 ls18) (Qaa r18_10 e11)).mono (by rintro e w' ⟨u,rfl,h1,h2,h3⟩; exact ⟨_,rfl,u,rfl,h1,h2,h3⟩)) fun v W12 h28=>?_
  obtain ⟨u28_,rfl,hu28_,q12,r18_12⟩:=h28
  obtain ⟨a28_,c28_,rfl,-⟩:=id (zaY hu28_)
  rw [←emi2] at r18_12
  refine sg 5 kj <| sgN hK27 <| wp_seq_k fun K29 hK29=>sgB kj <| cond_false kj <| wp_skip <| hK29 _ _ <| sgC fun K31 hK31=>sg 2 kj ?_
  have r16_11:=(Qaa (zaT q10 r16_9 (Qad rs16 ls18)) e11)
  have r3_12:=(zaT q12 r3_11 (Qad r3_7 ls18))
  have r4_12:=(zaT q12 r4_11 (Qad r4_7 ls18))
  have r2_12:=(zaT q12 r2_11 (Qad r2_7 ls18))
  have r1_12:=(zaT q12 r1_11 (Qad r1_7 ls18))
  refine Qaw (fun v W'=>∃ u,v=.tuple #[u,.nilIface]∧OwnN .u8 5 W12.heap.size (qt) u W'∧ExtB gs16 W12 W'∧W'.heap[gs16]? = some (.cells (HR mk4 true 1 mc4 (dig (mh2++fs2)) true sa (pubL sa) (pubL sb) 2 (zae 32 0) (pubL sy)) 76)) 15 #[.pointer (some ⟨gs16,0,none⟩),.slice a28_ ((pubL sy++fs2).length) c28_] 93 rfl kj kj ((Qo3 gs16 mk2 mc2 mi1 sa (pubL sa) (pubL sb) sx (zae 32 0) true 1 (pubL sy) qt mh2 mk3 mc3 mk4 mc4 fs2 (pubL sy++fs2) tc tq th tr _ hmk2l hmc2l hmi1l hsal (Qat sa) (Qat sb) hsxl (qZ (n:=32)) hmc2b hmi1b hsab (QaP _) (QaP _) hsxb z32b (Qat _) (QaP _) (Qbc hsal hsab hsyl hsyb).2 (Qbc hsxl hsxb hsyl hsyb).2 emh2 emc3' emk3' emc4' emk4' ef2 hqtb hqtl rfl _ (fun W e=>zaY (QcY hu28_ e (Qei hu28_ (Qa7 r16_11)))) ⟨r3_12,r4_12,r2_12,r1_12⟩ (Qad r3_6 ls16) (Qad r4_6 ls16) (Qad r2_6 ls16) (Qad r1_6 ls16) (zaT q12 r16_11 (Qad rs16 ls18))).mono (by rintro e w' ⟨u,rfl,h1,h2,h3⟩; exact ⟨_,rfl,u,rfl,h1,h2,h3⟩)) fun v W13 h32=>?_
  obtain ⟨u32_,rfl,hu32_,q13,r16_13⟩:=h32
  obtain ⟨a32_,c32_,rfl,-⟩:=id (zaY hu32_)
  rw [←emi2] at r16_13
  refine sg 5 kj <| sgN hK31 <| sgC fun K33 hK33=>sg 1 kj ?_
  have r3_13:=(zaT q13 r3_12 (Qad r3_6 ls16))
  have r4_13:=(zaT q13 r4_12 (Qad r4_6 ls16))
  have r2_13:=(zaT q13 r2_12 (Qad r2_6 ls16))
  have r1_13:=(zaT q13 r1_12 (Qad r1_6 ls16))
  refine Qas (.tuple #[.agg (ints .u8 (twA mc4)),.agg (ints .u8 (twB mc4)),.nilIface]) 23 #[.pointer (some ⟨gs16,0,none⟩)] 98 rfl kj kj (QiN gs16 mk4 mc4 mi2 sa (pubL sa) (pubL sb) (zae 32 0) (pubL sy) true 1 tc tq th tr _ hmk4l hmc4l hmi2l hsal (Qat sa) (Qat sb) (qZ (n:=32)) (Qat sy) hmc4b ⟨r3_13,r4_13,r2_13,r1_13⟩ r16_13) fun W14 e14=>?_
  have x14:=zaQ (zaU (zaU x11 q12 bs18) q13 bs16) e14
  refine sg 4 kj <| Qak (ints .u8 (zae 32 0)) 23 11 rfl kj kj fun g34 W15 l34 e15 r34_15=>?_
  have x15:=zaQ x14 e15
  refine Qak (ints .u8 (zae 32 0)) 23 12 rfl kj kj fun g35 W16 l35 e16 r35_16=>?_
  have r34_16:=(Qaa r34_15 e16)
  refine Qai g34 _ (ints .u8 (twA mc4)) 23 r34_16 rfl kj (Qag 23 _ _ g34 23 _ _ r34_16 rfl kj kj (isz (n:=32) kj (izT (QaJ _))) (eqsz (n:=32) (izT (qZ (n:=32))) (izT (QaJ _))) (ints_one _ _)) fun W17 p17 r34_17=>?_
  have r35_17:=(zaO p17 r35_16 (Qap r34_15 l35))
  refine Qai g35 _ (ints .u8 (twB mc4)) 23 r35_17 rfl kj (Qag 23 _ _ g35 23 _ _ r35_17 rfl kj kj (isz (n:=32) kj (izT (QaN _))) (eqsz (n:=32) (izT (qZ (n:=32))) (izT (QaN _))) (ints_one _ _)) fun W18 p18 r35_18=>sg 1 kj <| sgN hK33 <| sgC fun K36 hK36=>sg 1 kj ?_
  have r3_14:=(Qaa r3_13 e14)
  have r3_15:=(Qaa r3_14 e15)
  have r4_14:=(Qaa r4_13 e14)
  have r4_15:=(Qaa r4_14 e15)
  have r2_14:=(Qaa r2_13 e14)
  have r2_15:=(Qaa r2_14 e15)
  have r1_14:=(Qaa r1_13 e14)
  have r1_15:=(Qaa r1_14 e15)
  have r18_14:=(Qaa (zaT q13 r18_12 (Qap rs16 ls18)) e14)
  have r18_15:=(Qaa r18_14 e15)
  have r18_18:=(zaO p18 (zaO p17 (Qaa r18_15 e16) (Qad r18_14 l34)) (Qad r18_15 l35))
  refine Qas (.tuple #[.agg (ints .u8 (twB mc4)),.agg (ints .u8 (twA mc4)),.nilIface]) 23 #[.pointer (some ⟨gs18,0,none⟩)] 104 rfl kj kj (Qhg gs18 mk4 mc4 mi2 sb (pubL sb) (pubL sa) (zae 32 0) (pubL sx) true 1 tc tq th tr _ hmk4l hmc4l hmi2l hsbl (Qat sb) (Qat sa) (qZ (n:=32)) (Qat sx) hmc4b ⟨(zaO p18 (zaO p17 (Qaa r3_15 e16) (Qad r3_14 l34)) (Qad r3_15 l35)),(zaO p18 (zaO p17 (Qaa r4_15 e16) (Qad r4_14 l34)) (Qad r4_15 l35)),(zaO p18 (zaO p17 (Qaa r2_15 e16) (Qad r2_14 l34)) (Qad r2_15 l35)),(zaO p18 (zaO p17 (Qaa r1_15 e16) (Qad r1_14 l34)) (Qad r1_15 l35))⟩ r18_18) fun W19 e19=>?_
  have x19:=zaQ (zaP p18 (zaP p17 (zaQ x15 e16) (qT x14.size l34)) (qT x15.size l35)) e19
  refine sg 4 kj <| Qak (ints .u8 (zae 32 0)) 23 14 rfl kj kj fun g37 W20 l37 e20 r37_20=>?_
  have x20:=zaQ x19 e20
  refine Qak (ints .u8 (zae 32 0)) 23 15 rfl kj kj fun g38 W21 l38 e21 r38_21=>?_
  have r37_21:=(Qaa r37_20 e21)
  refine Qai g37 _ (ints .u8 (twB mc4)) 23 r37_21 rfl kj (Qag 23 _ _ g37 23 _ _ r37_21 rfl kj kj (isz (n:=32) kj (izT (QaN _))) (eqsz (n:=32) (izT (qZ (n:=32))) (izT (QaN _))) (ints_one _ _)) fun W22 p22 r37_22=>?_
  have r38_22:=(zaO p22 r38_21 (Qap r37_20 l38))
  refine Qai g38 _ (ints .u8 (twA mc4)) 23 r38_22 rfl kj (Qag 23 _ _ g38 23 _ _ r38_22 rfl kj kj (isz (n:=32) kj (izT (QaJ _))) (eqsz (n:=32) (izT (qZ (n:=32))) (izT (QaJ _))) (ints_one _ _)) fun W23 p23 r38_23=>?_
  have x23:=zaP p23 (zaP p22 (zaQ x20 e21) (qT x19.size l37)) (qT x20.size l38)
  refine sg 1 kj <| sgN hK36 <| sgC fun K39 hK39=>sg 13 kj ?_
  have r6_14:=(Qaa (zaT q13 (zaT q12 r6_11 (Qad r6_7 ls18)) (Qad r6_6 ls16)) e14)
  have r6_15:=(Qaa r6_14 e15)
  have r6_19:=(Qaa (zaO p18 (zaO p17 (Qaa r6_15 e16) (Qad r6_14 l34)) (Qad r6_15 l35)) e19)
  have r6_20:=(Qaa r6_19 e20)
  refine Qac (.slice a_q qt.length c_q) 121 rfl kj (Qaj 24 _ g6 129 63 _ (.slice a_q qt.length c_q) _ (zaO p23 (zaO p22 (Qaa r6_20 e21) (Qad r6_19 l37)) (Qad r6_20 l38)) rfl kj (Qaq [ints .u8 (sa),ints .u8 (sb),ints .u8 (sx),ints .u8 (sy),#[.slice a_p pt.length c_p]] [#[.slice a_q qt.length c_q]] [#[.slice a_r pro.length c_r]] 129 (by rw [Qab,Qab,Qab,Qab,Qab]; simp only [qS,cat,(izT hsal),(izT hsbl),(izT hsxl),(izT hsyl)]; rfl) 0 _ rfl) kj) ?_
  have f40_14:=(hu32_.ext e14)
  have f41_15:=(f40_14.ext e15)
  have f45_19:=((((f41_15.ext e16).puts p17 (Qit f40_14 l34)).puts p18 (Qit f41_15 l35)).ext e19)
  have f46_20:=(f45_19.ext e20)
  refine Qas (.bool true) 17 #[.slice a32_ ((qt).length) c32_,.slice a_q qt.length c_q] 122 rfl kj kj ((QpZ _ _ _ _ _ rfl (RdK.bytes (zaY (((f46_20.ext e21).puts p22 (Qit f45_19 l37)).puts p23 (Qit f46_20 l38))) hqtb) (RdK.bytes (RdK.ext hq x23) hqtb))) fun W24 e24=>sg 2 kj ?_
  have r34_19:=(Qaa (zaO p18 r34_17 (Qad r34_15 l35)) e19)
  have r34_20:=(Qaa r34_19 e20)
  refine Qac (.agg (ints .u8 (twA mc4))) 125 rfl kj (Qae 23 _ g34 23 _ _ (Qaa (zaO p23 (zaO p22 (Qaa r34_20 e21) (Qad r34_19 l37)) (Qad r34_20 l38)) e24) rfl kj kj (isz (n:=32) kj (izT (QaJ _)))) <| Qac (.agg (ints .u8 (twA mc4))) 126 rfl kj (Qae 23 _ g38 23 _ _ (Qaa r38_23 e24) rfl kj kj (isz (n:=32) kj (izT (QaJ _)))) <| Qac (.bool true) 127 rfl kj (QdW 23 _ _ _ _ _ (.bool true) rfl kj kj kj (Qfj 23 (e:=5) (k:=.u8) (twA mc4) (twA mc4) (decide_eq_true rfl) (QaJ _) (QaJ _) kj kj kj _)) <| sg 2 kj ?_
  have r35_19:=(Qaa r35_18 e19)
  have r35_20:=(Qaa r35_19 e20)
  refine Qac (.agg (ints .u8 (twB mc4))) 130 rfl kj (Qae 23 _ g35 23 _ _ (Qaa (zaO p23 (zaO p22 (Qaa r35_20 e21) (Qad r35_19 l37)) (Qad r35_20 l38)) e24) rfl kj kj (isz (n:=32) kj (izT (QaN _)))) <| Qac (.agg (ints .u8 (twB mc4))) 131 rfl kj (Qae 23 _ g37 23 _ _ (Qaa (zaO p23 r37_22 (Qad r37_20 l38)) e24) rfl kj kj (isz (n:=32) kj (izT (QaN _)))) <| Qac (.bool true) 132 rfl kj (QdW 23 _ _ _ _ _ (.bool true) rfl kj kj kj (Qfj 23 (e:=5) (k:=.u8) (twB mc4) (twB mc4) (decide_eq_true rfl) (QaN _) (QaN _) kj kj kj _)) <| sg 3 kj ?_
  have r16_14:=(Qaa r16_13 e14)
  have r16_15:=(Qaa r16_14 e15)
  have r16_19:=(Qaa (zaO p18 (zaO p17 (Qaa r16_15 e16) (Qad r16_14 l34)) (Qad r16_15 l35)) e19)
  have r16_20:=(Qaa r16_19 e20)
  have r16_24:=(Qaa (zaO p23 (zaO p22 (Qaa r16_20 e21) (Qad r16_19 l37)) (Qad r16_20 l38)) e24)
  refine Qas (.agg (ints .u8 (mi2))) 19 #[.pointer (some ⟨gs16,0,none⟩)] 136 rfl kj kj (QqI gs16 mk4 mc4 mi2 sa (pubL sa) (pubL sb) (zae 32 0) (pubL sy) true true 1 2 _ hmk4l hmc4l hmi2l hsal (Qat sa) (Qat sb) (qZ (n:=32)) (Qat sy) r16_24) fun W25 e25=>sg 1 kj ?_
  have r18_19:=(Qaa r18_18 e19)
  have r18_20:=(Qaa r18_19 e20)
  have r18_25:=(Qaa (Qaa (zaO p23 (zaO p22 (Qaa r18_20 e21) (Qad r18_19 l37)) (Qad r18_20 l38)) e24) e25)
  refine Qas (.agg (ints .u8 (mi2))) 19 #[.pointer (some ⟨gs18,0,none⟩)] 138 rfl kj kj (QqI gs18 mk4 mc4 mi2 sb (pubL sb) (pubL sa) (zae 32 0) (pubL sx) true false 1 2 _ hmk4l hmc4l hmi2l hsbl (Qat sb) (Qat sa) (qZ (n:=32)) (Qat sx) r18_25) fun W26 e26=>Qac (.bool true) 139 rfl kj (QdW 35 _ _ _ _ _ (.bool true) rfl kj kj kj (Qfj 35 (e:=5) (k:=.u8) (mi2) (mi2) (decide_eq_true rfl) hmi2l hmi2l kj kj kj _)) <| sg 3 kj <| Qas (.bool true) 22 #[.pointer (some ⟨gs16,0,none⟩)] 143 rfl kj kj (Qkk gs16 mk4 mc4 mi2 sa (pubL sa) (pubL sb) (zae 32 0) (pubL sy) true true 1 _ hmk4l hmc4l hmi2l hsal (Qat sa) (Qat sb) (qZ (n:=32)) (Qat sy) (Qaa (Qaa r16_24 e25) e26)) fun W27 e27=>sg 3 kj <| Qas (.bool true) 22 #[.pointer (some ⟨gs18,0,none⟩)] 147 rfl kj kj (Qkk gs18 mk4 mc4 mi2 sb (pubL sb) (pubL sa) (zae 32 0) (pubL sx) true false 1 _ hmk4l hmc4l hmi2l hsbl (Qat sb) (Qat sa) (qZ (n:=32)) (Qat sx) (Qaa (Qaa r18_25 e26) e27)) fun W28 e28=>sg 2 kj <| sgN hK39 <| wp_ret ?_
  exact (show bodyPost _ _ _ .ret _ _ from ret1 (.bool true) rfl (Qa4 kj) ⟨rfl,(zaQ (zaQ (zaQ (zaQ (zaQ x23 e24) e25) e26) e27) e28)⟩)
theorem shakeC (sa sb sx sy pt qt pro:List Int) (hsal:sa.length=32) (hsab:Qaf sa) (hsbl:sb.length=32) (hsbb:Qaf sb) (hsxl:sx.length=32) (hsxb:Qaf sx) (hsyl:sy.length=32) (hsyb:Qaf sy) (hptb:Qaf pt) (hqtb:Qaf qt) (hprb:Qaf pro) (tc tq th tr:TypeId) (w:World) (hT:Tabs tc tq th tr w) (a_p:Option Addr) (c_p:Nat) (hp:RdK .u8 w.heap.size pt (.slice a_p pt.length c_p) w) (a_q:Option Addr) (c_q:Nat) (hq:RdK .u8 w.heap.size qt (.slice a_q qt.length c_q) w) (a_r:Option Addr) (c_r:Nat) (hr:RdK .u8 w.heap.size pro (.slice a_r pro.length c_r) w) :
    Calls Tryz.prog 4 #[.agg (cat [ints .u8 sa,ints .u8 sb,ints .u8 sx,ints .u8 sy,#[.slice a_p pt.length c_p],#[.slice a_q qt.length c_q],#[.slice a_r pro.length c_r]])] w (Ret w (.bool true)):=by
  by_cases h1:pt.length≤1024
  · by_cases h2:qt.length≤1024
    · by_cases h3:pro.length≤1000
      · exact QoI sa sb sx sy pt qt pro hsal hsab hsbl hsbb hsxl hsxb hsyl hsyb hptb hqtb hprb tc tq th tr w hT a_p c_p hp a_q c_q hq a_r c_r hr h1 h2 h3
      · exact QoJ sa sb sx sy pt qt pro hsal hsab hsbl hsbb hsxl hsxb hsyl hsyb hptb hqtb hprb tc tq th tr w hT a_p c_p hp a_q c_q hq a_r c_r hr h1 h2 (by omega)
    · exact QoK sa sb sx sy pt qt pro hsal hsab hsbl hsbb hsxl hsxb hsyl hsyb hptb hqtb hprb tc tq th tr w hT a_p c_p hp a_q c_q hq a_r c_r hr h1 (by omega)
  · exact QoL sa sb sx sy pt qt pro hsal hsab hsbl hsbb hsxl hsxb hsyl hsyb hptb hqtb hprb tc tq th tr w hT a_p c_p hp a_q c_q hq a_r c_r hr (by omega)
end No
end
section
namespace Auto
open Go Go.RowKit Go.WideShapes
open Rely
section
variable {H : Type} {enc : TypeId × Value → H} {P : Program} {W w : World} {r : Reach} {base b0 : Nat} {sp : Nat → Bool} {held : Bool}
theorem open_raw {n : Nat} {t e:TypeId} {cs:List Value} {fuel:Nat} {x:DataW H×List MemPlace} (ht:P.underlying t=some (.array n e)) (he:P.underlying e=some (.int .u8)) (hce:P.cellsOf e=1) (hct:P.cellsOf t=n)
    (hf:DataW.trod enc P w b0 sp held fuel t cs=some x):∃ xs:List Int,cs=xs.map (za0 .u8)∧xs.length=n∧Qaf xs:=by
  obtain ⟨xs,m,-,-,hl,hn,hx⟩:=DataW.trod_array ht hf
  have hcs:cs.length=n:=by simpa [hct] using hl
  have each:∀ i,i<n→∃ z:Int,cs[i]? = some (.int .u8 z)∧(0≤z∧z≤255):=by
    intro i hi
    have h1:=hx i hi
    rw [hce,Nat.mul_one] at h1
    have hlt:i<cs.length:=by omega
    have h2:cs.drop i=cs[i]::cs.drop (i+1):=List.drop_eq_getElem_cons hlt
    have h1:DataW.trod enc P w b0 sp held m e ((cs.drop i).take 1)=xs[i]?:=h1
    rw [h2] at h1
    simp only [zar,zas] at h1
    obtain ⟨y,hy⟩:∃ y,xs[i]? = some y:=⟨xs[i],by simp [hn,hi]⟩
    rw [hy] at h1
    obtain ⟨z,hc,-,hw⟩:=DataW.trod_int he h1
    refine ⟨z,?_,?_⟩
    · rw [za8 hlt]
      simp only [List.cons.injEq] at hc
      rw [hc.1]
    · simpa [Lit.wf,za9,zaA,zaB,zaC] using hw
  have all:∀ (l:List Value),(∀ i,i<l.length→∃ z:Int,l[i]? = some (.int .u8 z)∧(0≤z∧z≤255))→∃ zs:List Int,l=zs.map (za0 .u8)∧Qaf zs:=by
    intro l
    induction l with
    | nil=>exact fun _=>⟨[],rfl,fun x hx=>by simp at hx⟩
    | cons a l ih =>
      intro h
      obtain ⟨zs,h1,h2⟩:=ih fun i hi=>by simpa using h (i+1) (by simp; omega)
      obtain ⟨z,h3,h4⟩:=h 0 (by simp)
      simp only [List.getElem?_cons_zero,Option.some.injEq] at h3
      refine ⟨z::zs,by rw [h3,h1]; rfl,fun x hx=>?_⟩
      rcases zai.1 hx with e | e
      · rw [e]; exact h4
      · exact h2 x e
  obtain ⟨zs,h1,h2⟩:=all cs fun i hi=>each i (by omega)
  exact ⟨zs,h1,by rw [←hcs,h1,za1],h2⟩
end
end Auto
end
section
namespace Auto
open Go Go.RowKit Go.WideShapes
open Rely
section
variable {H : Type} {enc : TypeId × Value → H} {P : Program} {W w : World} {r : Reach} {base b0 : Nat} {sp : Nat → Bool} {held : Bool}
theorem QmU {t : TypeId} {f0 f1 f2 f3 f4 f5 f6:Field} {fuel:Nat} {cs:List Value} {x:DataW H×List MemPlace} (ht:P.underlying t=some (.struct #[f0,f1,f2,f3,f4,f5,f6])) (h:DataW.trod enc P w b0 sp held fuel t cs=some x) :
    ∃ y0 y1 y2 y3 y4 y5 y6 n,cs.length=P.cellsOf t∧DataW.trod enc P w b0 sp held n f0.type ((cs.drop f0.offset).take (P.cellsOf f0.type))=some y0∧DataW.trod enc P w b0 sp held n f1.type ((cs.drop f1.offset).take (P.cellsOf f1.type))=some y1∧DataW.trod enc P w b0 sp held n f2.type ((cs.drop f2.offset).take (P.cellsOf f2.type))=some y2∧DataW.trod enc P w b0 sp held n f3.type ((cs.drop f3.offset).take (P.cellsOf f3.type))=some y3∧DataW.trod enc P w b0 sp held n f4.type ((cs.drop f4.offset).take (P.cellsOf f4.type))=some y4∧DataW.trod enc P w b0 sp held n f5.type ((cs.drop f5.offset).take (P.cellsOf f5.type))=some y5∧DataW.trod enc P w b0 sp held n f6.type ((cs.drop f6.offset).take (P.cellsOf f6.type))=some y6:=by
  obtain ⟨xs,n,_,rfl,hl,hlen,hf⟩:=DataW.trod_struct ht h
  match xs,hlen with
  | [y0,y1,y2,y3,y4,y5,y6],_=>exact ⟨y0,y1,y2,y3,y4,y5,y6,n,hl,by simpa using hf 0 f0 rfl,by simpa using hf 1 f1 rfl,by simpa using hf 2 f2 rfl,by simpa using hf 3 f3 rfl,by simpa using hf 4 f4 rfl,by simpa using hf 5 f5 rfl,by simpa using hf 6 f6 rfl⟩
theorem open_st7 {t : TypeId} {f0 f1 f2 f3 f4 f5 f6:Field} {v:Value} {d:DataW H} {p:List MemPlace} {n0 n1 n2 n3 n4 n5 n6:Nat} (hs:P.underlying t=some (.struct #[f0,f1,f2,f3,f4,f5,f6]))
    (ho:f0.offset=0∧f1.offset=n0∧f2.offset=n0+n1∧f3.offset=n0+n1+n2∧f4.offset=n0+n1+n2+n3∧f5.offset=n0+n1+n2+n3+n4∧f6.offset=n0+n1+n2+n3+n4+n5) (hc:P.cellsOf f0.type=n0∧P.cellsOf f1.type=n1∧P.cellsOf f2.type=n2∧P.cellsOf f3.type=n3∧P.cellsOf f4.type=n4∧P.cellsOf f5.type=n5∧P.cellsOf f6.type=n6) (hC:P.cellsOf t=n0+n1+n2+n3+n4+n5+n6)
    (hv:Value.okWide P W r base t v) (h:DataW.Trod enc P w b0 sp held t v d p) :
    ∃ (X0 X1 X2 X3 X4 X5 X6:List Value) (y0 y1 y2 y3 y4 y5 y6:DataW H×List MemPlace) (n:Nat),v=.agg (X0++X1++X2++X3++X4++X5++X6).toArray∧DataW.trod enc P w b0 sp held n f0.type X0=some y0∧DataW.trod enc P w b0 sp held n f1.type X1=some y1∧DataW.trod enc P w b0 sp held n f2.type X2=some y2∧DataW.trod enc P w b0 sp held n f3.type X3=some y3∧DataW.trod enc P w b0 sp held n f4.type X4=some y4∧DataW.trod enc P w b0 sp held n f5.type X5=some y5∧DataW.trod enc P w b0 sp held n f6.type X6=some y6:=by
  obtain ⟨cs,rfl,hsz⟩:=okWide_struct hs hv
  obtain ⟨fuel,hf⟩:=h
  obtain ⟨y0,y1,y2,y3,y4,y5,y6,n,hlen,h0,h1,h2,h3,h4,h5,h6⟩:=QmU hs hf
  obtain ⟨o0,o1,o2,o3,o4,o5,o6⟩:=ho
  obtain ⟨c0,c1,c2,c3,c4,c5,c6⟩:=hc
  rw [o0,c0] at h0
  rw [o1,c1] at h1
  rw [o2,c2] at h2
  rw [o3,c3] at h3
  rw [o4,c4] at h4
  rw [o5,c5] at h5
  rw [o6,c6] at h6
  refine ⟨_,_,_,_,_,_,_,y0,y1,y2,y3,y4,y5,y6,n,?_,h0,h1,h2,h3,h4,h5,h6⟩
  congr 1
  have hl:cs.toList.length=n0+n1+n2+n3+n4+n5+n6:=by rw [zaD,hsz,hC]
  apply Array.ext'
  show cs.toList=_
  simp only [Value.cells,zau]
  generalize cs.toList=l at hl
  have e1:l.take (n0)++(l.drop (n0)).take n1=l.take (n0+n1):=by rw [zaE (i:=n0)]
  have e2:l.take (n0+n1)++(l.drop (n0+n1)).take n2=l.take (n0+n1+n2):=by rw [zaE (i:=n0+n1)]
  have e3:l.take (n0+n1+n2)++(l.drop (n0+n1+n2)).take n3=l.take (n0+n1+n2+n3):=by rw [zaE (i:=n0+n1+n2)]
  have e4:l.take (n0+n1+n2+n3)++(l.drop (n0+n1+n2+n3)).take n4=l.take (n0+n1+n2+n3+n4):=by rw [zaE (i:=n0+n1+n2+n3)]
  have e5:l.take (n0+n1+n2+n3+n4)++(l.drop (n0+n1+n2+n3+n4)).take n5=l.take (n0+n1+n2+n3+n4+n5):=by rw [zaE (i:=n0+n1+n2+n3+n4)]
  have e6:l.take (n0+n1+n2+n3+n4+n5)++(l.drop (n0+n1+n2+n3+n4+n5)).take n6=l.take (n0+n1+n2+n3+n4+n5+n6):=by rw [zaE (i:=n0+n1+n2+n3+n4+n5)]
  rw [e1,e2,e3,e4,e5,e6,zaF (by omega)]
end
end Auto
end
section
namespace Auto
open Go Go.RowKit
open Rely
theorem QeT {P : Program} {w:World}:∀ (laid:List (String×DataW Unit)) (ps:List MemPlace) (n:String) (d:DataW Unit),DataW.LaidVars P w laid ps→(n,d)∈laid →
    ∃ g t cs fuel p,P.globalNamed n=some g∧(P.globals[g]?).map (·.type)=some t∧w.var? P n=some cs∧DataW.trod (fun _=>()) P w 0 (fun _=>true) false fuel t cs.toList=some (d,p)∧∀ x∈MemPlace.row ⟨g,0,none⟩ cs.size,x∈ps
  | [],_,_,_,_,h=>by cases h
  | (n0,d0)::r,ps,n,d,⟨g,t,cs,fuel,p,q,h1,h2,h3,h4,h5,h6⟩,h=>by
    subst h6
    rcases zai.1 h with h | h
    · cases h
      exact ⟨g,t,cs,fuel,p,h1,h2,h3,h4,fun x hx=>zaG _ (zaG _ hx)⟩
    · obtain ⟨g',t',cs',fuel',p',a,b,c,e,f⟩:=QeT r q n d h5 h
      exact ⟨g',t',cs',fuel',p',a,b,c,e,fun x hx=>List.mem_append_right _ (f x hx)⟩
theorem QhA {P : Program} {w:World} {laid:List (String×DataW Unit)} {n:String} {k:IntKind} {zs:List Int} {g:Nat} {t e:TypeId} {m:Nat} (h:laidMet P laid w) (hm:(n,Lib.tabData k zs)∈laid)
    (hg:P.globalNamed n=some g) (hty:(P.globals[g]?).map (·.type)=some t) (ht:P.underlying t=some (.array m e)) (he:P.underlying e=some (.int k)) (hce:P.cellsOf e=1) (hct:P.cellsOf t=m) (h0:0<zs.length) :
    ∃ t,w.heap[g]? = some (.cells (ints k zs) t):=by
  obtain ⟨ps,hL,-,hC⟩:=h
  obtain ⟨g',t',cs,fuel,p,hg',ht',hvar,hd,hin⟩:=QeT _ _ _ _ hL hm
  obtain rfl:=Option.some.inj (hg.symm.trans hg')
  obtain rfl:=Option.some.inj (hty.symm.trans ht')
  have hcs:=Lib.cells_of_tab ht he hce hct hd
  have hsz:0<cs.size:=by rw [←zaD,hcs,za1]; exact h0
  obtain ⟨⟨c,t2,hc⟩,-⟩:=hC g 0 (hin _ (List.mem_map.2 ⟨0,zaH.2 hsz,rfl⟩))
  unfold World.var? at hvar
  rw [hg] at hvar
  simp only [zaI,hc,Option.some.injEq] at hvar
  subst hvar
  refine ⟨t2,hc.trans ?_⟩
  rw [show c=ints k zs from by rw [ints,←hcs]]
theorem bytes_wf {bs : List Int} (h:∀ n∈bs,(Lit.int .u8 n).wf=true):Qaf bs:=fun n hn=>by
  have:=h n hn
  simpa [Lit.wf,za9,zaA,zaB,zaC] using this
end Auto
end
section
namespace Auto
open Go Go.RowKit
open Rely
theorem chunks {α : Type} (m:Nat):∀ (n:Nat) (cs:List α),cs.length=n*m→((zaJ n).map fun i=>(cs.drop (i*m)).take m).flatten=cs
  | 0,cs,h=>by
    have:cs=[]:=List.length_eq_zero_iff.1 (by simpa using h)
    subst this; rfl
  | n+1,cs,h=>by
    have hm:(n+1)*m=n*m+m:=Nat.succ_mul n m
    rw [List.range_succ,za3,List.flatten_append]
    have ih:=chunks m n (cs.take (n*m)) (by rw [zaw]; omega)
    have e1:((zaJ n).map fun i=>(cs.drop (i*m)).take m)=((zaJ n).map fun i=>((cs.take (n*m)).drop (i*m)).take m):=by
      refine List.map_congr_left fun i hi=>?_
      rw [zaH] at hi
      have h1:(i+1)*m≤n*m:=Nat.mul_le_mul_right m hi
      rw [Nat.succ_mul] at h1
      rw [List.drop_take,List.take_take,Nat.min_eq_left (by omega)]
    rw [e1,ih]
    simp only [zak,zal,zam,zan,zao]
    have e2:(cs.drop (n*m)).take m=cs.drop (n*m):=zaF (by rw [zax]; omega)
    rw [e2,List.take_append_drop]
theorem QhF {H : Type} {enc:TypeId×Value→H} {P:Program} {w:World} {base:Nat} {sp:Nat→Bool} {held:Bool} {fuel:Nat} {t e i:TypeId} {n m:Nat} {k:IntKind} {cs:List Value} {zss:List (List Int)} {p:List MemPlace}
    (ht:P.underlying t=some (.array n e)) (he:P.underlying e=some (.array m i)) (hi:P.underlying i=some (.int k)) (hci:P.cellsOf i=1) (hce:P.cellsOf e=m) (hct:P.cellsOf t=n*m)
    (h:DataW.trod enc P w base sp held fuel t cs=some (.agg (zss.map (Lib.tabData k)),p)):cs=zss.flatten.map fun z=>za0 k z:=by
  cases fuel with
  | zero=>simp [DataW.trod] at h
  | succ fuel =>
    simp only [DataW.trod,ht,hce,hct] at h
    split at h
    · rename_i hl
      obtain ⟨xs,hm,hx⟩:=Option.map_eq_some_iff.1 h
      have hxs:xs.map (·.1)=zss.map fun z=>(Lib.tabData k z:DataW H):=by
        have:=congrArg Prod.fst hx
        simpa using this
      have hxl:xs.length=n:=by simpa using Lib.mapM_length hm
      have hzl:zss.length=n:=by
        have:=congrArg List.length hxs
        simp at this
        omega
      rw [←chunks m n cs (by simpa using hl),List.map_flatten]
      congr 1
      apply List.ext_getElem?
      intro j
      by_cases hj:j<n
      · obtain ⟨b,hb,hf⟩:=Lib.mapM_at hm j j (by simp [hj])
        have h2:(xs.map (·.1))[j]? = some b.1:=by simp [hb]
        rw [hxs,zaK,za8 (by omega),zay,Option.some.injEq] at h2
        have h3:=Lib.cells_of_tab he hi hci hce (zs:=zss[j]'(by omega)) (p:=b.2) (by rw [h2]; exact hf)
        rw [zaK,zaK,List.getElem?_range hj,za8 (by omega),zay,zay,h3]
      · rw [zaL (by simp; omega),zaL (by simp; omega)]
    · cases h
theorem Qme {P : Program} {w:World} {laid:List (String×DataW Unit)} {n:String} {k:IntKind} {zss:List (List Int)} {g:Nat} {t e i:TypeId} {m1 m:Nat} (h:laidMet P laid w) (hm:(n,DataW.agg (zss.map (Lib.tabData k)))∈laid)
    (hg:P.globalNamed n=some g) (hty:(P.globals[g]?).map (·.type)=some t) (ht:P.underlying t=some (.array m1 e)) (he:P.underlying e=some (.array m i)) (hi:P.underlying i=some (.int k)) (hci:P.cellsOf i=1) (hce:P.cellsOf e=m) (hct:P.cellsOf t=m1*m) (h0:0<zss.flatten.length) :
    ∃ t,w.heap[g]? = some (.cells (ints k zss.flatten) t):=by
  obtain ⟨ps,hL,-,hC⟩:=h
  obtain ⟨g',t',cs,fuel,p,hg',ht',hvar,hd,hin⟩:=QeT _ _ _ _ hL hm
  obtain rfl:=Option.some.inj (hg.symm.trans hg')
  obtain rfl:=Option.some.inj (hty.symm.trans ht')
  have hcs:=QhF ht he hi hci hce hct hd
  have hsz:0<cs.size:=by rw [←zaD,hcs,za1]; exact h0
  obtain ⟨⟨c,t2,hc⟩,-⟩:=hC g 0 (hin _ (List.mem_map.2 ⟨0,zaH.2 hsz,rfl⟩))
  unfold World.var? at hvar
  rw [hg] at hvar
  simp only [zaI,hc,Option.some.injEq] at hvar
  subst hvar
  refine ⟨t2,hc.trans ?_⟩
  rw [show c=ints k zss.flatten from by rw [ints,←hcs]]
end Auto
end
end Go.Proofs.YtlcjklafldaemaaGreatDoor
