/- Texts of this claim, joined (S4). -/
import Derived.Test.YtlcjklafldaemaaGreatDoorZS3
import Derived.WalkKit

set_option linter.unusedVariables false
set_option linter.unusedSimpArgs false
set_option maxHeartbeats 4000000
open List renaming getElem?_eq_some_iff → zaa, mem_iff_getElem? → zac, filter_eq_self → zad, mem_cons_self → zaf, mem_range → zag, all_eq_true → zah, mem_cons → zaj, mem_of_getElem? → zak, size_toArray → zal, mem_cons_of_mem → zan, take_succ_cons → zap, take_zero → zaq, drop_succ_cons → zar, drop_zero → zas, nil_append → zat, cons_append → zau, mem_or_eq_of_mem_set → zaw, take_of_length_le → zaA, foldl_cons → zaB, append_assoc → zaG, replicate → zaJ, not_mem_nil → zaK, drop_append_of_le_length → zaX, length_append → zaY
open Nat renaming zero_add → zab, lt_succ_self → za5, ble → zaC, add_zero → zaF, mul_comm → zaS, gcd → zaT, gcd_dvd_left → zaU, gcd_dvd_right → zaV, mul_le_mul_right → zaW, le_of_dvd → zaZ, mul_one → zbd
open Go.Region renaming ready → zae
open Array renaming getD_eq_getD_getElem? → zai, getElem?_setIfInBounds_self_of_lt → zam, replicate → zao
open Int renaming emod_eq_of_lt → zav, tmod_eq_emod_of_nonneg → zax, le_of_lt → zaz, mul_comm → za0, pow_pos → za2, tmod → za3, mul_assoc → za6, one_mul → za7, mul_zero → za8, zero_mul → za9, natCast_emod → zaD, natCast_add → zaE, mul_one → zaL, add_emod → zaM, emod_eq_emod_iff_emod_sub_eq_zero → zaN, pow_succ → zaO, emod_emod → zaP, add_zero → zaQ, sub_self → zaR, emod_add_mul_ediv → zba, emod_nonneg → zbb, emod_lt_of_pos → zbc
open Go.IntKind renaming i64 → zay, u64 → za1
open Go.Value renaming int → za4
open Go.Sem renaming run_bind → zaH
open Go.Result renaming andThen_ok → zaI
open Go.Code renaming wp → zbe, rounds → zbf
namespace Go.Proofs.YtlcjklafldaemaaGreatDoor
open Rely.Ext renaming refl → zbg, trans → zbh
open Auto.Puts renaming row → zbi, ext → zbj
open Auto.Ext renaming tr → zbk
open Auto.Kn renaming val → zbl
open Own.ExtB renaming ext → zbm
section
namespace Auto
open Go Go.RowKit
open Rely
variable {ds : List Deferred} {Fe : Fence} {nf : Nat}
section
variable {P : Program} {Rd : World → Prop} {w0 : World} {base N : Nat} {L : Env}
theorem QhO {l : List Oper} {S:List Src} {C:List Kn} {U D:List Nat} {Q:Exit→Act→World→Prop} (hFr:Free Fe nf P) (hdf:(l.all Qc7)=true) (hD:Qdb l D=true) (hDC:∀ j∈D,∃ cs T,C[j]? = some (.new cs T)) (hok:okT l N S U=true)
    (hC:C.length=l.length) (hRd:∀ W,Ext w0 W→Rd W)
    (hop:∀ j o s,l[j]? = some o→S[j]? = some s→∃ k,C[j]? = some k∧(o.dst.isNone=true→k=.is undef)∧(o.dst.isNone=false→if U.contains j=true then QjK P Rd N L (C.take j) o s k else opOk P Ext w0 (envN N L) ((C.take j).map (Kn.fact base)) o s (k.fact base)))
    (hfin:∀ W,Ext w0 W→finP (fun af W=>QcU P Rd l af (fun W'=>Q .normal af W') (QcO l) W) D l (C.map (Kn.fact base)) 0 [] (Qau ds N L) W) :
    ∀ (fuel:Nat) (listed:Array Bool) (a:Act) (W:World) (vs:Nat→Value),InvT l (Qau ds N L) listed a vs C U→QqF P Rd l w0 base (Qau ds N L) listed W vs C U D Q→fuel=left l.toArray listed→wpAnyIn Fe nf P .any l.toArray Q fuel listed a W:=by
  simp only [okT,Bool.and_eq_true] at hok
  obtain ⟨⟨⟨⟨⟨hsrc,hdst⟩,hedge⟩,htail⟩,hst⟩,hUT⟩:=hok
  have hN:(Qau ds N L).tmps.size=N:=Qds N L
  have hanc:∀ j i,((masks l #[]).getD j 0).testBit i=true→Anc l.toArray i j:=Qde l.toArray l #[] (fun j=>by simp) (fun j i h=>by simp at h)
  have hsl:S.length=l.length:=QeZ l S 0 hsrc
  have frame:∀ (listed:Array Bool) (a:Act) (vs:Nat→Value),InvT l (Qau ds N L) listed a vs C U→(∀ i,i<l.length→listed.getD i true=true)→QaR l vs 0 (Qau ds N L)=a:=by
    intro listed a vs inv hall
    have hall':∀ i,i<l.length→listed.getD i false=true:=fun i hi=>by
      cases hx:listed.getD i false with
      | true=>rfl
      | false=>have:=getD_in (by have:=inv.size; omega) hx; rw [hall i hi] at this; cases this
    have hsz:=Qcu l vs 0 (Qau ds N L)
    have ht:(QaR l vs 0 (Qau ds N L)).tmps=a.tmps:=by
      refine Array.ext_getElem? fun t=>?_
      by_cases hw:∃ (i:Nat) (o:Oper),l[i]? = some o∧o.dst=some t
      · obtain ⟨i,o,hi,ho⟩:=hw
        have hin:i<l.length:=(zaa.1 hi).1
        rw [QbS l vs 0 (Qau ds N L) t i o hdst hN hi ho,zab]
        exact (inv.vals i o t (hall' i hin) hi ho).symm
      · rw [QbD l vs 0 (Qau ds N L) t (fun o ho he=>by
          obtain ⟨i,hi⟩:=zac.1 ho
          exact hw ⟨i,o,hi,he⟩)]
        refine (inv.rest t fun i o _ hi he=>hw ⟨i,o,hi,he⟩).symm
    have hd:=hsz.2.trans inv.defers.symm
    generalize QaR l vs 0 (Qau ds N L)=b at *
    cases a; cases b
    simp_all
  -- the stores begin
  have begin_:∀ (listed:Array Bool) (a:Act) (W:World) (vs:Nat→Value),InvT l (Qau ds N L) listed a vs C U→(∀ i,isT l i=true→listed.getD i false=false)→Ext w0 W→(∀ i k,C[i]? = some k→listed.getD i false=true→k.fact base (vs i) W)→QiL D l.length listed vs →
      (∀ i,i<l.length→isT l i=false→U.contains i=false→listed.getD i false=true)→QcU P Rd l (QaR l vs 0 (Qau ds N L)) (fun W'=>Q .normal (QaR l vs 0 (Qau ds N L)) W') (rem l listed) W:=by
    intro listed a W vs inv hT hR hf hp hall
    have hrem:rem l listed=QcO l:=by
      unfold rem
      rw [zad]
      intro i hi
      have h1:=Qgu.1 hi
      have h2:=hT i h1
      have hil:i<l.length:=by
        cases hx:l[i]? with
        | none=>simp [isT,hx] at h1
        | some o=>exact (zaa.1 hx).1
      rw [getD_in (by have:=inv.size; omega) h2]
      rfl
    rw [hrem]
    have hDl:∀ i,i∈D→listed.getD i false=true:=fun i hi=>by
      obtain ⟨cs,T,hc⟩:=hDC i hi
      have hil:i<l.length:=by rw [←hC]; exact (zaa.1 hc).1
      obtain ⟨o,ho⟩:∃ o,l[i]? = some o:=⟨l[i],by simp [hil]⟩
      obtain ⟨s,hs⟩:∃ s,S[i]? = some s:=⟨S[i]'(by omega),by simp [show i<S.length by omega]⟩
      obtain ⟨k,hk,hk1,hk2⟩:=hop i o s ho hs
      obtain rfl:k=.new cs T:=Option.some.inj (hk.symm.trans hc)
      refine hall i hil ?_ ?_
      · rw [Qda ho]
        cases hx:o.dst.isNone with
        | false=>rfl
        | true=>exact absurd (hk1 hx) (fun e=>by cases e)
      · cases hx:U.contains i with
        | false=>rfl
        | true =>
          have hdn:o.dst.isNone=false:=by
            cases hy:o.dst.isNone with
            | false=>rfl
            | true=>exact absurd (hk1 hy) (fun e=>by cases e)
          have:=hk2 hdn
          rw [if_pos hx] at this
          obtain ⟨_,c,hc',_⟩:=this
          cases hc'
    refine Qga (D:=D) l (C.map (Kn.fact base)) (Qau ds N L) vs 0 [] (hfin W hR) (by simp [hC]) (fun i hi=>?_) (fun u hu=>by cases hu) (fun i k hi hk hin hkn hne=>hp i k hi hk (hDl i hi) (hDl k hk) (by omega) (by omega) hne)
    rw [zab]
    obtain ⟨k,hk⟩:∃ k,C[i]? = some k:=⟨C[i]'(by omega),by simp [show i<C.length by omega]⟩
    have e1:(C.map (Kn.fact base)).getD i (fun _ _=>True)=k.fact base:=by simp [hk]
    rw [e1]
    by_cases hli:listed.getD i false=true
    · exact hf i k hk hli
    · obtain ⟨o,ho⟩:∃ o,l[i]? = some o:=⟨l[i],by simp [hi]⟩
      obtain ⟨s,hs⟩:∃ s,S[i]? = some s:=⟨S[i]'(by omega),by simp [show i<S.length by omega]⟩
      obtain ⟨k',hk',hk1,hk2⟩:=hop i o s ho hs
      obtain rfl:k'=k:=Option.some.inj (hk'.symm.trans hk)
      cases hx:o.dst.isNone with
      | true =>
        have hkk:=hk1 hx
        rw [hkk]
        exact inv.cst i undef (hkk▸hk) (.inr (.inr (by rw [Qda ho]; exact hx)))
      | false =>
        have hiU:U.contains i=true:=by
          cases hy:U.contains i with
          | true=>rfl
          | false=>exact absurd (hall i hi (by rw [Qda ho]; exact hx) hy) hli
        have:=hk2 hx
        rw [if_pos hiU] at this
        obtain ⟨_,c,hc',_⟩:=this
        rw [hc']
        exact inv.cst i c (hc'▸hk) (.inr (.inl hiU))
  intro fuel
  induction fuel with
  | zero =>
    intro listed a W vs inv ph hf
    have hall:∀ i,i<l.length→listed.getD i true=true:=fun i hi=>by
      cases hx:listed.getD i true with
      | true=>rfl
      | false =>
        have:=Qfg (ops:=l.toArray) (by simpa using hi) hx
        omega
    refine ⟨?_,?_⟩
    · cases hr:zae .any l.toArray listed with
      | nil=>rfl
      | cons x xs =>
        obtain ⟨hu,o,ho,_⟩:=mem_ready.1 (show x∈zae .any l.toArray listed by rw [hr]; exact zaf)
        have hxl:x<l.length:=by have:=(Array.getElem?_eq_some_iff.1 ho).1; simpa using this
        rw [hall x hxl] at hu
        cases hu
    · have hrem:rem l listed=[]:=by
        rw [List.eq_nil_iff_forall_not_mem]
        intro j hj
        obtain ⟨h1,h2⟩:=Qer.1 hj
        have hjl:j<l.length:=by
          cases hx:l[j]? with
          | none=>simp [isT,hx] at h1
          | some o=>exact (zaa.1 hx).1
        rw [hall j hjl] at h2
        cases h2
      have ht:QcU P Rd l (QaR l vs 0 (Qau ds N L)) (fun W'=>Q .normal (QaR l vs 0 (Qau ds N L)) W') (rem l listed) W:=by
        rcases ph with ⟨h1,h2,h3,h4⟩ | ⟨_,_,h2⟩
        · refine begin_ listed a W vs inv h1 h2 h3 h4 fun i hi _ _=>?_
          cases hx:listed.getD i false with
          | true=>rfl
          | false=>have:=getD_in (by have:=inv.size; omega) hx; rw [hall i hi] at this; cases this
        · exact h2
      rw [hrem,frame listed a vs inv hall] at ht
      exact ht
  | succ fuel ih =>
    intro listed a W vs inv ph hf
    have hs:listed.size=l.length:=inv.size
    refine ⟨fun hr=>?_,fun j hj=>?_⟩
    · exfalso
      by_cases hA:∀ i,i<l.length→listed.getD i true=true
      · have:left l.toArray listed=0:=by
          unfold left
          rw [List.countP_eq_zero]
          intro i hi
          have:=hA i (by simpa using zag.1 hi)
          simp only [this,Bool.not_true,Bool.false_eq_true,not_false_iff]
        omega
      · obtain ⟨i0,hi0,hu0⟩:∃ i,i<l.length∧listed.getD i true=false:=by
          refine Classical.byContradiction fun hc=>hA fun i hi=>?_
          cases hx:listed.getD i true with
          | true=>rfl
          | false=>exact absurd ⟨i,hi,hx⟩ hc
        obtain ⟨j,hj⟩:=Qcf hedge (listed:=listed) i0 hi0 hu0
        rw [hr] at hj; cases hj
    · obtain ⟨hju,oj,hoj,_⟩:=mem_ready.1 hj
      have hoj':l[j]? = some oj:=by simpa using hoj
      have hjl:j<l.length:=(zaa.1 hoj').1
      have hjs:j<listed.size:=by omega
      have hnl:¬ listed.getD j false=true:=fun h=>by rw [QaX h] at hju; cases hju
      obtain ⟨s,hsj,hso⟩:=Qe5 l S 0 hsrc j oj hoj'
      rw [zab] at hso
      simp only [QhS,Bool.and_eq_true] at hso
      obtain ⟨hg,hrd⟩:=hso
      have hg':Qd3 l.toArray oj=some s.guard:=by simpa using hg
      have readS:∀ t i,(t,some i)∈s.reads→i<j∧listed.getD i false=true∧∃ oi,l[i]? = some oi∧oi.dst=some t:=fun t i hti=>by
        have h1:=zah.1 hrd (t,some i) hti
        simp only [Qdy,Bool.and_eq_true,decide_eq_true_eq,beq_iff_eq] at h1
        obtain ⟨⟨hij,hbit⟩,hdi⟩:=h1
        refine ⟨hij,Qbp inv.closed hj (hanc j i hbit),?_⟩
        cases hx:l[i]? with
        | none=>rw [hx] at hdi; cases hdi
        | some oi=>rw [hx] at hdi; exact ⟨oi,rfl,hdi⟩
      have readN:∀ t,(t,none)∈s.reads→a.tmps[t]? = (Qau ds N L).tmps[t]?:=fun t htn=>inv.rest t fun i o hli hio hd=>by
        have h1:=zah.1 hrd (t,none) htn
        simp only [Qdy] at h1
        have h3:=zah.1 h1 (o,i) (by
          rw [zac]
          refine ⟨i,?_⟩
          rw [List.getElem?_zipIdx]
          simp [hio])
        simp only [hd,bne_self_eq_false,Bool.false_or,Bool.or_eq_true,beq_iff_eq] at h3
        have hlj:listed.getD j false=true:=by
          rcases h3 with h3 | h3
          · exact inv.closed.anc (hanc i j h3) hli
          · rw [←h3]; exact hli
        exact hnl hlj
      have slotS:∀ t i,(t,some i)∈s.reads→slots a t=vs i:=fun t i hti=>by
        obtain ⟨_,hli,oi,hoi,hdi⟩:=readS t i hti
        have hv:=inv.vals i oi t hli hoi hdi
        simp only [slots,zai,hv,Option.getD_some]
      have slotN:∀ t,(t,none)∈s.reads→slots a t=envN N L t:=fun t htn=>by
        rw [←Qce (ds:=ds)]
        simp only [slots,zai,readN t htn]
      have hlist:∀ i,(listed.setIfInBounds j true).getD i false=true→i=j∨listed.getD i false=true:=fun i hi=>by
        by_cases hij:j=i
        · exact .inl hij.symm
        · rw [getD_set_ne false hij] at hi; exact .inr hi
      obtain ⟨k,hk,hk1,hk2⟩:=hop j oj s hoj' hsj
      cases hdn:oj.dst.isNone with
      | true =>
        have hTj:isT l j=true:=by rw [Qda hoj']; exact hdn
        have hdnone:oj.dst=none:=by simpa using hdn
        have htj:=zah.1 htail j (zag.2 hjl)
        simp only [hTj,Bool.not_true,Bool.false_or] at htj
        have hall:∀ i,i<l.length→isT l i=false→U.contains i=false→listed.getD i false=true:=fun i hi h1 h2=>by
          have h3:=zah.1 htj i (zag.2 hi)
          simp only [Bool.or_eq_true,beq_iff_eq] at h3
          rcases h3 with h3 | h3
          · rw [h3,hTj] at h1; cases h1
          · rw [h1] at h3
            simp only [Bool.false_eq_true,if_false,h2,Bool.false_or] at h3
            exact Qbp inv.closed hj (hanc j i h3)
        have hrun:QcU P Rd l (QaR l vs 0 (Qau ds N L)) (fun W'=>Q .normal (QaR l vs 0 (Qau ds N L)) W') (rem l listed) W:=by
          rcases ph with ⟨h1,h2,h3,h4⟩ | ⟨_,_,h2⟩
          · exact begin_ listed a W vs inv h1 h2 h3 h4 hall
          · exact h2
        have hjr:j∈rem l listed:=Qer.2 ⟨hTj,hju⟩
        have hsorted:=QgJ l listed
        have hset:=Qhp (l:=l) (listed:=listed) hjs
        cases hr:rem l listed with
        | nil=>rw [hr] at hjr; cases hjr
        | cons h r =>
          rw [hr] at hrun hjr hsorted hset
          have hhj:h=j:=by
            rcases zaj.1 hjr with e | e
            · exact e.symm
            · exfalso
              have hlt:=(List.pairwise_cons.1 hsorted).1 j e
              obtain ⟨hTh,hlh⟩:=Qer.1 (show h∈rem l listed by rw [hr]; exact zaf)
              have h3:=zah.1 htj h (zag.2 (by omega))
              simp only [Bool.or_eq_true,beq_iff_eq,hTh,if_true,decide_eq_true_eq] at h3
              rcases h3 with h3 | h3 | h3
              · omega
              · omega
              · have:=Qbp inv.closed hj (hanc j h h3)
                rw [QaX this] at hlh
                cases hlh
          subst hhj
          rw [Qi9 hsorted] at hset
          obtain ⟨o',W',ho',hrunj,hrdj,hrest⟩:=hrun
          obtain rfl:o'=oj:=Option.some.inj (ho'.symm.trans hoj')
          have hstj:=zah.1 hst h (zag.2 hjl)
          simp only [hTj,Bool.not_true,Bool.false_or,hoj',hsj,Bool.and_eq_true] at hstj
          obtain ⟨⟨⟨hs1,hs2⟩,hs3⟩,hs4⟩:=hstj
          have hcong:execOp a.eval o'=execOp (QaR l vs 0 (Qau ds N L)).eval o':=by
            refine execOp_congr o' (fun cs b hc=>by rw [hc] at hs3; cases hs3) fun x hx=>?_
            cases x with
            | tmp t =>
              have h5:=zah.1 hs4 (.tmp t) (Array.mem_toList_iff.2 hx)
              obtain ⟨⟨t',si⟩,hm,hb⟩:=List.any_eq_true.1 h5
              have ht':t'=t:=Nat.eq_of_beq_eq_true hb
              subst ht'
              show a.tmps.getD t' undef=(QaR l vs 0 (Qau ds N L)).tmps.getD t' undef
              cases si with
              | none =>
                have h6:=zah.1 hs1 (t',none) hm
                rw [zai,zai,readN t' hm,QbD l vs 0 (Qau ds N L) t' fun o ho he=>by
                  have:=zah.1 h6 o ho
                  rw [he] at this
                  simp at this]
              | some i =>
                obtain ⟨_,hli,oi,hoi,hdi⟩:=readS t' i hm
                rw [zai,zai,inv.vals i oi t' hli hoi hdi,QbS l vs 0 (Qau ds N L) t' i oi hdst hN hoi hdi,zab]
            | const v=>rfl
            | global g=>rfl
            | func f=>rfl
          refine Qc2 hoj hFr.fn ?_
          have hgn:s.guard=none:=by simpa using hs2
          rw [QbG hg',hgn]
          simp only [gOk,if_true]
          unfold Oper.wpIn
          rw [Oper.semAt_plain Fe _ _ (QeA (zah.1 hdf _ (zak hoj'))),hcong,hrunj]
          refine ⟨fun f _=>hFr.fn f,?_⟩
          show wpAnyIn Fe nf P .any l.toArray Q fuel (listed.setIfInBounds h true) (a.put o'.dst undef) W'
          rw [hdnone]
          refine ih _ a W' vs ⟨by simp [inv.size],inv.closed.set hj,inv.defers,inv.asize,fun i o d hi hio hd=>?_,fun t ht=>?_,fun i c hc hi=>?_⟩ (.inr ⟨fun i hi h1 h2=>getD_set_true (hall i hi h1 h2),hrdj,?_⟩) ?_
          · rcases hlist i hi with e | e
            · subst e
              obtain rfl:o=o':=Option.some.inj (hio.symm.trans hoj')
              rw [hdnone] at hd; cases hd
            · exact inv.vals i o d e hio hd
          · exact inv.rest t fun i o hi hio=>ht i o (getD_set_true hi) hio
          · refine inv.cst i c hc ?_
            rcases hi with hi | hi
            · rcases hlist i hi with e | e
              · exact .inr (.inr (e▸hTj))
              · exact .inl e
            · exact .inr hi
          · rw [hset]; exact hrest
          · have:=Qdp (ops:=l.toArray) hju (by rw [zal]; exact inv.size)
            omega
      | false =>
        have hTj:isT l j=false:=by rw [Qda hoj']; exact hdn
        have hkk:=hk2 hdn
        have hrem':rem l (listed.setIfInBounds j true)=rem l listed:=by
          rw [Qhp hjs,zad]
          intro i hi
          have:=(Qer.1 hi).1
          simp only [bne_iff_ne,ne_eq]
          intro e
          rw [e,hTj] at this
          cases this
        have htl:∀ {P:Nat→Prop},(∀ i,isT l i=true→listed.getD i false=false)→∀ i,isT l i=true→(listed.setIfInBounds j true).getD i false=false:=fun h i hi=>by
          have hij:j≠i:=fun e=>by rw [e,hi] at hTj; cases hTj
          rw [getD_set_ne false hij]
          exact h i hi
        cases hU:U.contains j with
        | true =>
          rw [if_pos hU] at hkk
          obtain ⟨hseen,c,rfl,hrun⟩:=hkk
          have hseen':=hseen
          simp only [seen,Bool.and_eq_true] at hseen'
          have htk:∀ i,i<j→(C.take j)[i]? = C[i]?:=fun i hi=>by rw [List.getElem?_take,if_pos hi]
          have hh:Qcr (envN N L) ((C.take j).map (Kn.fact base)) (slots a) W s.reads:=Qkd s.reads hseen'.1.1.2 slotN fun t i c hti hc=>by
            obtain ⟨hij,hli,_⟩:=readS t i hti
            rw [htk i hij] at hc
            rw [slotS t i hti]
            exact inv.cst i c hc (.inl hli)
          have hvj:vs j=c:=inv.cst j c hk (.inr (.inl hU))
          have hrdW:Rd W:=by
            rcases ph with ⟨_,h2,_,_⟩ | ⟨_,h2,_⟩
            · exact hRd W h2
            · exact h2
          have hr:=hrun W hrdW
          rw [←QcP hseen hh,←Qdv hseen hh,←Qew] at hr
          have next:wpAnyIn Fe nf P .any l.toArray Q fuel (listed.setIfInBounds j true) (a.put oj.dst c) W:=by
            refine ih _ _ W vs ⟨by simp [inv.size],inv.closed.set hj,(put_defers _ _ _).trans inv.defers,(Qdl _ _ _).trans inv.asize,fun i o d hi hio hd=>?_,fun t ht=>?_,fun i c' hc hi=>?_⟩ ?_ ?_
            · by_cases hij:i=j
              · subst hij
                obtain rfl:o=oj:=Option.some.inj (hio.symm.trans hoj')
                rw [hd,QcC _ _ _ (by rw [inv.asize,hN]; exact Qez l hdst i o d hoj' hd),hvj]
              · rcases hlist i hi with e | e
                · exact absurd e hij
                · rw [Qb2 _ _ _ _ (Qey l hdst i j o oj d hio hoj' hij hd)]
                  exact inv.vals i o d e hio hd
            · rw [Qb2 _ _ _ _ (ht j oj (by simp [zam hjs]) hoj')]
              exact inv.rest t fun i o hi hio=>ht i o (getD_set_true hi) hio
            · refine inv.cst i c' hc ?_
              rcases hi with hi | hi
              · rcases hlist i hi with e | e
                · exact .inr (.inl (e▸hU))
                · exact .inl e
              · exact .inr hi
            · rcases ph with ⟨h1,h2,h3,h4⟩ | ⟨h1,h1r,h2⟩
              · refine .inl ⟨htl (P:=fun _=>True) h1,h2,fun i k' hk' hi=>?_,fun i k' hi hk' hli hlk hin hkn hne=>?_⟩
                · rcases hlist i hi with e | e
                  · subst e
                    obtain rfl:k'=.is c:=Option.some.inj (hk'.symm.trans hk)
                    exact hvj
                  · exact h3 i k' hk' e
                · have nj:∀ i,i∈D→i≠j:=fun i hi e=>by
                    obtain ⟨cs,T,hc⟩:=hDC i hi
                    rw [e,hk] at hc
                    cases hc
                  exact h4 i k' hi hk' ((hlist i hli).resolve_left (nj i hi)) ((hlist k' hlk).resolve_left (nj k' hk')) hin hkn hne
              · refine .inr ⟨fun i hi e1 e2=>getD_set_true (h1 i hi e1 e2),h1r,?_⟩
                rw [hrem']
                exact h2
            · have:=Qdp (ops:=l.toArray) hju (by rw [zal]; exact inv.size)
              omega
          refine Qc2 hoj hFr.fn ?_
          rw [QbG hg']
          by_cases hb:gOk s.guard (slots a)=true
          · rw [if_pos hb]
            have hr':(execOp a.eval oj).run P W=.ok (.value c) W:=by
              cases hgd':s.guard with
              | none=>rw [hgd'] at hr; exact hr
              | some db =>
                rw [hgd'] at hr hb
                exact (if_pos hb).mp hr
            unfold Oper.wpIn
            rw [Oper.semAt_plain Fe _ _ (QeA (zah.1 hdf _ (zak hoj'))),hr']
            exact ⟨fun f _=>hFr.fn f,next⟩
          · rw [if_neg hb]
            have hc':undef=c:=by
              cases hgd':s.guard with
              | none=>rw [hgd'] at hb; exact absurd rfl hb
              | some db =>
                rw [hgd'] at hr hb
                exact (if_neg hb).mp hr
            rw [hc']
            exact next
        | false =>
          rw [if_neg (by rw [hU]; decide)] at hkk
          obtain ⟨h1,h2,h3,h4⟩:(∀ i,isT l i=true→listed.getD i false=false)∧Ext w0 W∧(∀ i k,C[i]? = some k→listed.getD i false=true→k.fact base (vs i) W)∧QiL D l.length listed vs:=by
            rcases ph with h | ⟨h1,_⟩
            · exact h
            · exact absurd (h1 j hjl hTj hU) hnl
          have holds:∀ (r:List (Tmp×Option Nat)),(∀ x∈r,x∈s.reads)→Qcr (envN N L) ((C.take j).map (Kn.fact base)) (slots a) W r:=by
            intro r
            induction r with
            | nil=>intro _; trivial
            | cons x r ihr =>
              intro hr
              obtain ⟨t,si⟩:=x
              have hm:=hr _ zaf
              cases si with
              | none=>exact ⟨slotN t hm,ihr fun x hx=>hr x (zan _ hx)⟩
              | some i =>
                refine ⟨?_,ihr fun x hx=>hr x (zan _ hx)⟩
                obtain ⟨hij,hli,_⟩:=readS t i hm
                rw [slotS t i hm]
                obtain ⟨ki,hki⟩:∃ ki,C[i]? = some ki:=⟨C[i]'(by omega),by simp [show i<C.length by omega]⟩
                have e1:((C.take j).map (Kn.fact base)).getD i (fun _ _=>True)=ki.fact base:=by
                  simp [hij,hki]
                rw [e1]
                exact h3 i ki hki hli
          have hopj:=hkk (slots a) W h2 (holds s.reads fun _ h=>h)
          have next:∀ v W',Ext W W'→(k.fact base v W'∧(j∈D→v=.pointer (some ⟨W.heap.size,0,none⟩)))→wpAnyIn Fe nf P .any l.toArray Q fuel (listed.setIfInBounds j true) (a.put oj.dst v) W':=by
            intro v W' hR ⟨hφ,hfresh⟩
            refine ih _ _ W' (fun i=>if i=j then v else vs i) ⟨by simp [inv.size],inv.closed.set hj,(put_defers _ _ _).trans inv.defers,(Qdl _ _ _).trans inv.asize,fun i o d hi hio hd=>?_,fun t ht=>?_,fun i c' hc hi=>?_⟩ (.inl ⟨htl (P:=fun _=>True) h1,zbh h2 hR,fun i k' hk' hi=>?_,fun i k' hi hk' hli hlk hin hkn hne=>?_⟩) ?_
            · by_cases hij:i=j
              · subst hij
                obtain rfl:o=oj:=Option.some.inj (hio.symm.trans hoj')
                rw [hd,QcC _ _ _ (by rw [inv.asize,hN]; exact Qez l hdst i o d hoj' hd)]
                simp
              · simp only [hij,if_false]
                rcases hlist i hi with e | e
                · exact absurd e hij
                · rw [Qb2 _ _ _ _ (Qey l hdst i j o oj d hio hoj' hij hd)]
                  exact inv.vals i o d e hio hd
            · rw [Qb2 _ _ _ _ (ht j oj (by simp [zam hjs]) hoj')]
              exact inv.rest t fun i o hi hio=>ht i o (getD_set_true hi) hio
            · by_cases hij:i=j
              · subst hij
                obtain rfl:k=.is c':=Option.some.inj (hk.symm.trans hc)
                have hv:v=c':=hφ
                simpa using hv
              · simp only [hij,if_false]
                refine inv.cst i c' hc ?_
                rcases hi with hi | hi
                · exact .inl ((hlist i hi).resolve_left hij)
                · exact .inr hi
            · by_cases hij:i=j
              · subst hij
                obtain rfl:k'=k:=Option.some.inj (hk'.symm.trans hk)
                simpa using hφ
              · simp only [hij,if_false]
                exact Kn.stable base k' _ _ _ hR (h3 i k' hk' ((hlist i hi).resolve_left hij))
            · have old:∀ m,m∈D→listed.getD m false=true→j∈D→vs m≠v:=fun m hm hl hjD he=>by
                obtain ⟨cs,T,hc⟩:=hDC m hm
                obtain ⟨g,hg1,_,hg2⟩:=h3 m _ hc hl
                rw [hg1,hfresh hjD] at he
                simp only [Value.pointer.injEq,Option.some.injEq,Addr.mk.injEq,and_true] at he
                have:=Qa7 hg2
                omega
              by_cases hij:i=j
              · by_cases hkj:k'=j
                · exact absurd (hij.trans hkj.symm) hne
                · simp only [hij,hkj,if_true,if_false]
                  exact (old k' hk' ((hlist k' hlk).resolve_left hkj) (hij▸hi)).symm
              · by_cases hkj:k'=j
                · simp only [hij,hkj,if_true,if_false]
                  exact old i hi ((hlist i hli).resolve_left hij) (hkj▸hk')
                · simp only [hij,hkj,if_false]
                  exact h4 i k' hi hk' ((hlist i hli).resolve_left hij) ((hlist k' hlk).resolve_left hkj) hin hkn hne
            · have:=Qdp (ops:=l.toArray) hju (by rw [zal]; exact inv.size)
              omega
          refine Qc2 hoj hFr.fn ?_
          rw [QbG hg']
          by_cases hb:gOk s.guard (slots a)=true
          · rw [if_pos hb]
            refine Qgn (R:=Ext) (W:=W) (φ:=fun v W'=>k.fact base v W'∧(j∈D→v=.pointer (some ⟨W.heap.size,0,none⟩))) (QeA (zah.1 hdf _ (zak hoj'))) hFr.fn hFr.dp hFr.calls (fun {_ _ _} h1 h2=>zbh h1 h2) ?_ next
            cases hgd':s.guard with
            | none=>rw [hgd'] at hopj; exact QcB hD hoj' hopj
            | some db =>
              rw [hgd'] at hopj hb
              exact QcB hD hoj' ((if_pos hb).mp hopj)
          · rw [if_neg hb]
            refine next undef W (zbg W) ⟨?_,fun hjD=>absurd (noguard hD hjD hoj' hg') (fun e=>hb (by rw [e]; rfl))⟩
            cases hgd':s.guard with
            | none=>rw [hgd'] at hb; exact absurd rfl hb
            | some db =>
              rw [hgd'] at hopj hb
              exact (if_neg hb).mp hopj
end
theorem QgV {P : Program} {id:Nat} {Q:Exit→Act→World→Prop} {N:Nat} {L:Env} {w:World} {l:List Oper} (Rd:World→Prop) (S:List Src) (D U:List Nat) (hFr:Free Fe nf P) (hdf:(l.all Qc7)=true) (hD:Qdb l D=true) (hm:P.follows .mixedOrders=true) (hok:okT l N S U=true) (hRd:∀ W,Ext w W→Rd W)
    (h:∀ F:List Kn→Prop,(∀ C,Qeh C 0=D→(∀ W,Ext w W→fins w.heap.size (fun L W=>Qd7 P Rd l N L (fun W'=>Q .normal (Qau ds N L) W') (QcO l) W) l C [] L W)→F C)→QcH P Rd w.drew w.heap.size N L U F l S []) :
    (Code.region id l.toArray true).wpIn Fe nf P Q (Qau ds N L) w:=by
  have hok':=hok
  simp only [okT,Bool.and_eq_true] at hok'
  obtain ⟨⟨⟨⟨⟨hsrc,hdst⟩,hedge⟩,htail⟩,hst⟩,hUT⟩:=hok'
  obtain ⟨C,hlen,_,hF,hO⟩:=Qeo l S [] (QeZ l S 0 hsrc) (h (fun C=>Qeh C 0=D∧∀ W,Ext w W→fins w.heap.size (fun L W=>Qd7 P Rd l N L (fun W'=>Q .normal (Qau ds N L) W') (QcO l) W) l C [] L W) (fun C h1 h2=>⟨h1,h2⟩))
  have hCl:C.length=l.length:=by simpa using hlen
  refine wpIn_region_any hm ?_
  have hcount:l.toArray.size=left l.toArray (zao l.toArray.size false):=by
    unfold left
    have:∀ m,m≤l.toArray.size→(List.range m).countP (fun i=>!(zao l.toArray.size false).getD i true)=m:=by
      intro m
      induction m with
      | zero=>intro _; simp
      | succ m ih =>
        intro hm
        rw [List.range_succ,List.countP_append,ih (by omega),List.countP_singleton]
        have:(zao l.toArray.size false).getD m true=false:=by simp at hm ⊢; simp [show m<l.length by omega]
        simp only [this,Bool.not_false,if_true]
    exact (this _ (qR _)).symm
  refine QhO (P:=P) (Fe:=Fe) (nf:=nf) (w0:=w.drew) (base:=w.heap.size) (N:=N) (L:=L) (S:=S) (C:=C) (U:=U) (D:=D) (Rd:=Rd) hFr hdf hD (fun j hj=>QdN C C 0 (fun j=>by rw [zab]) j (by rw [hF.1]; exact hj)) hok hCl (fun W hW=>hRd W (zbh (Qah w) hW)) (fun j o s hj hs=>by simpa using hO j o s hj hs) (fun W hR=>?_) _ _ _ _ (fun i=>match C[i]? with | some (.is c)=>c | _=>undef) ⟨by simp,?_,rfl,rfl,?_,fun t _=>rfl,fun i c hc _=>by simp [hc]⟩ (.inl ⟨fun i _=>getD_replicate_false _ _,zbg _,?_,?_⟩) hcount
  · have:=hF.2 W (zbh (Qah w) hR)
    have key:=Qeu (ds:=ds) (Q:=fun af W=>QcU P Rd l af (fun W'=>Q .normal af W') (QcO l) W) (N:=N) (base:=w.heap.size) (W:=W) (D:=D) l C 0 [] L (fun i _=>by rw [hF.1]; simp)
    refine key ?_
    have mono:∀ (os:List Oper) (C:List Kn) (acc:List Nat) (L:Env) (A B:Env→World→Prop),(∀ L W,A L W→B L W)→fins w.heap.size A os C acc L W→fins w.heap.size B os C acc L W:=by
      intro os
      induction os with
      | nil=>intro C acc L A B h hh; cases C <;> exact h _ _ hh
      | cons o os ih =>
        intro C acc L A B h hh
        cases C with
        | nil=>exact h _ _ hh
        | cons k C =>
          cases k with
          | is c=>exact ih C acc _ A B h hh
          | new cs T=>exact fun g h1 h2 h3=>ih C _ _ A B h (hh g h1 h2 h3)
    exact mono l C [] L _ _ (fun L W h=>Qhj _ _ h) this
  · intro j o ho hl
    rw [getD_replicate_false] at hl; cases hl
  · intro i o d hi; rw [getD_replicate_false] at hi; cases hi
  · intro i k _ hi; rw [getD_replicate_false] at hi; cases hi
  · intro i k _ _ hi; rw [getD_replicate_false] at hi; cases hi
end Auto
end
section
namespace Field
open Go Go.RowKit
open Rely Auto Ladder
theorem Qlu (u x z y v s0 s1 s2 s3 s4 s5 s6 s7 s8 s9 s10 s11 s12 s13 s14 s15 s16 s17:Int) (ck:∀ W,Calls Tryz.prog 71 #[.int .i64 121665] W (Ret W (num 121665)))
    (c0:∀ W,Calls Tryz.prog 109 #[.agg (numA (x)),.agg (numA (z))] W (Ret W (.agg (numA (s0)))))
    (c1:∀ W,Calls Tryz.prog 96 #[.agg (numA (x)),.agg (numA (z))] W (Ret W (.agg (numA (s1)))))
    (c2:∀ W,Calls Tryz.prog 109 #[.agg (numA (y)),.agg (numA (v))] W (Ret W (.agg (numA (s2)))))
    (c3:∀ W,Calls Tryz.prog 96 #[.agg (numA (y)),.agg (numA (v))] W (Ret W (.agg (numA (s3)))))
    (c4:∀ W,Calls Tryz.prog 94 #[.agg (numA (s0)),.agg (numA (s0))] W (Ret W (.agg (numA (s4)))))
    (c5:∀ W,Calls Tryz.prog 94 #[.agg (numA (s1)),.agg (numA (s1))] W (Ret W (.agg (numA (s5)))))
    (c6:∀ W,Calls Tryz.prog 96 #[.agg (numA (s4)),.agg (numA (s5))] W (Ret W (.agg (numA (s6)))))
    (c7:∀ W,Calls Tryz.prog 94 #[.agg (numA (s3)),.agg (numA (s0))] W (Ret W (.agg (numA (s7)))))
    (c8:∀ W,Calls Tryz.prog 94 #[.agg (numA (s2)),.agg (numA (s1))] W (Ret W (.agg (numA (s8)))))
    (c9:∀ W,Calls Tryz.prog 109 #[.agg (numA (s7)),.agg (numA (s8))] W (Ret W (.agg (numA (s9)))))
    (c10:∀ W,Calls Tryz.prog 96 #[.agg (numA (s7)),.agg (numA (s8))] W (Ret W (.agg (numA (s10)))))
    (c11:∀ W,Calls Tryz.prog 94 #[.agg (numA (s4)),.agg (numA (s5))] W (Ret W (.agg (numA (s11)))))
    (c12:∀ W,Calls Tryz.prog 94 #[.agg (numA (s6)),.agg (numA (121665))] W (Ret W (.agg (numA (s12)))))
    (c13:∀ W,Calls Tryz.prog 109 #[.agg (numA (s4)),.agg (numA (s12))] W (Ret W (.agg (numA (s13)))))
    (c14:∀ W,Calls Tryz.prog 94 #[.agg (numA (s6)),.agg (numA (s13))] W (Ret W (.agg (numA (s14)))))
    (c15:∀ W,Calls Tryz.prog 94 #[.agg (numA (s9)),.agg (numA (s9))] W (Ret W (.agg (numA (s15)))))
    (c16:∀ W,Calls Tryz.prog 94 #[.agg (numA (s10)),.agg (numA (s10))] W (Ret W (.agg (numA (s16)))))
    (c17:∀ W,Calls Tryz.prog 94 #[.agg (numA (u)),.agg (numA (s16))] W (Ret W (.agg (numA (s17))))) (w:World) :
    Calls Tryz.prog 93 #[num u,.agg (cat [numA x,numA z]),.agg (cat [numA y,numA v])] w (Ret w (.tuple #[.agg (cat [numA (s11),numA (s14)]),.agg (cat [numA (s15),numA (s17)])])):=by
  refine enter 80 [(0,.agg (numA (u))),(1,.agg (cat [numA (x),numA (z)])),(2,.agg (cat [numA (y),numA (v)]))] Tryz.func93 rfl rfl kj rfl <| sgC fun K1 hK1=>Qak (numA (u)) 126 3 rfl kj kj fun g2 W1 l2 e1 r2_1=>?_
  have x1:=zbk (zbg w) e1
  have b2:=qT (zbg w).size l2
  refine Qak (cat [numA (x),numA (z)]) 148 4 rfl kj kj fun g3 W2 l3 e2 r3_2=>?_
  have x2:=zbk x1 e2
  have b3:=qT x1.size l3
  refine Qak (cat [numA (y),numA (v)]) 148 5 rfl kj kj fun g4 W3 l4 e3 r4_3=>?_
  have x3:=zbk x2 e3
  have b4:=qT x2.size l4
  refine Qak (cat [numA (0),numA (0)]) 148 6 rfl kj kj fun g5 W4 l5 e4 r5_4=>?_
  have x4:=zbk x3 e4
  refine Qak (cat [numA (0),numA (0)]) 148 7 rfl kj kj fun g6 W5 l6 e5 r6_5=>?_
  have x5:=zbk x4 e5
  refine sgN hK1 <| wp_seq_k fun K7 hK7=>QbV 12 [⟨none,[(4,none)]⟩,⟨none,[(19,some 0)]⟩,⟨none,[(4,none)]⟩,⟨none,[(21,some 2)]⟩,⟨none,[(20,some 1),(22,some 3)]⟩,⟨none,[(4,none)]⟩,⟨none,[(24,some 5)]⟩,⟨none,[(4,none)]⟩,⟨none,[(26,some 7)]⟩,⟨none,[(25,some 6),(27,some 8)]⟩,⟨none,[]⟩,⟨none,[]⟩] [10,11] kj kj kj fun F hF=>Qal (.pointer (some ⟨g3,0,none⟩)) kj kj (fun _=>kj) ?_
  have r3_5:=(Qaa (Qaa (Qaa r3_2 e3) e4) e5)
  refine Qax (.agg (numA (x))) kj kj (fun W hR=>(Qan 126 _ g3 0 148 _ _ _ (Qaa (Qaa r3_5 (Qah _)) hR) rfl kj (Qaq [] [numA (x)] [numA (z)] 0 kj) kj (isz (n:=4) kj kj))) <| Qal (.pointer (some ⟨g3,4,none⟩)) kj kj (fun _=>kj) <| Qax (.agg (numA (z))) kj kj (fun W hR=>(Qan 126 _ g3 4 148 _ _ _ (Qaa (Qaa r3_5 (Qah _)) hR) rfl kj (Qaq [numA (x)] [numA (z)] [] 4 kj) kj (isz (n:=4) kj kj))) <| QaI (.agg (numA (s0))) 109 #[.agg (numA (x)),.agg (numA (z))] kj kj (fun _=>kj) (fun W hR=>c0 W) <| Qal (.pointer (some ⟨g3,0,none⟩)) kj kj (fun _=>kj) <| Qax (.agg (numA (x))) kj kj (fun W hR=>(Qan 126 _ g3 0 148 _ _ _ (Qaa (Qaa r3_5 (Qah _)) hR) rfl kj (Qaq [] [numA (x)] [numA (z)] 0 kj) kj (isz (n:=4) kj kj))) <| Qal (.pointer (some ⟨g3,4,none⟩)) kj kj (fun _=>kj) <| Qax (.agg (numA (z))) kj kj (fun W hR=>(Qan 126 _ g3 4 148 _ _ _ (Qaa (Qaa r3_5 (Qah _)) hR) rfl kj (Qaq [numA (x)] [numA (z)] [] 4 kj) kj (isz (n:=4) kj kj))) <| QaI (.agg (numA (s1))) 96 #[.agg (numA (x)),.agg (numA (z))] kj kj (fun _=>kj) (fun W hR=>c1 W) <| Qcy (numA (0)) 126 kj (qR _) kj (fun _=>kj) ?_
  refine Qcy (numA (0)) 126 kj (qR _) kj (fun _=>kj) <| QaH (hF _ kj fun W6 e6=>?_)
  simp only [fins,up,zap,zaq,zar,zas,zat,zau]
  intro g8 l8 r8_6 n8 g9 l9 r9_6 n9
  have n9_8:g9≠g8:=n9 _ (by simp)
  clear hF
  refine Qai g8 _ (numA (s0)) 126 r8_6 rfl kj (Qag 126 _ _ g8 126 _ _ r8_6 rfl kj kj (isz (n:=4) kj kj) (eqsz (n:=4) kj kj) kj) fun W7 p7 r8_7=>?_
  have r9_7:=(zbi p7 r9_6 n9_8)
  refine Qai g9 _ (numA (s1)) 126 r9_7 rfl kj (Qag 126 _ _ g9 126 _ _ r9_7 rfl kj kj (isz (n:=4) kj kj) (eqsz (n:=4) kj kj) kj) fun W8 p8 r9_8=>?_
  have x8:=zbj p8 (zbj p7 (zbk x5 e6) (qT x5.size l8)) (qT x5.size l9)
  refine sgN hK7 <| wp_seq_k fun K10 hK10=>QbV 12 [⟨none,[(5,none)]⟩,⟨none,[(29,some 0)]⟩,⟨none,[(5,none)]⟩,⟨none,[(31,some 2)]⟩,⟨none,[(30,some 1),(32,some 3)]⟩,⟨none,[(5,none)]⟩,⟨none,[(34,some 5)]⟩,⟨none,[(5,none)]⟩,⟨none,[(36,some 7)]⟩,⟨none,[(35,some 6),(37,some 8)]⟩,⟨none,[]⟩,⟨none,[]⟩] [10,11] kj kj kj fun F hF=>Qal (.pointer (some ⟨g4,0,none⟩)) kj kj (fun _=>kj) ?_
  have r4_5:=(Qaa (Qaa r4_3 e4) e5)
  have r4_8:=(zbi p8 (rpn p7 r4_5 e6 l8) (Qad r4_5 l9))
  refine Qax (.agg (numA (y))) kj kj (fun W hR=>(Qan 126 _ g4 0 148 _ _ _ (Qaa (Qaa r4_8 (Qah _)) hR) rfl kj (Qaq [] [numA (y)] [numA (v)] 0 kj) kj (isz (n:=4) kj kj))) <| Qal (.pointer (some ⟨g4,4,none⟩)) kj kj (fun _=>kj) <| Qax (.agg (numA (v))) kj kj (fun W hR=>(Qan 126 _ g4 4 148 _ _ _ (Qaa (Qaa r4_8 (Qah _)) hR) rfl kj (Qaq [numA (y)] [numA (v)] [] 4 kj) kj (isz (n:=4) kj kj))) <| QaI (.agg (numA (s2))) 109 #[.agg (numA (y)),.agg (numA (v))] kj kj (fun _=>kj) (fun W hR=>c2 W) <| Qal (.pointer (some ⟨g4,0,none⟩)) kj kj (fun _=>kj) <| Qax (.agg (numA (y))) kj kj (fun W hR=>(Qan 126 _ g4 0 148 _ _ _ (Qaa (Qaa r4_8 (Qah _)) hR) rfl kj (Qaq [] [numA (y)] [numA (v)] 0 kj) kj (isz (n:=4) kj kj))) <| Qal (.pointer (some ⟨g4,4,none⟩)) kj kj (fun _=>kj) <| Qax (.agg (numA (v))) kj kj (fun W hR=>(Qan 126 _ g4 4 148 _ _ _ (Qaa (Qaa r4_8 (Qah _)) hR) rfl kj (Qaq [numA (y)] [numA (v)] [] 4 kj) kj (isz (n:=4) kj kj))) <| QaI (.agg (numA (s3))) 96 #[.agg (numA (y)),.agg (numA (v))] kj kj (fun _=>kj) (fun W hR=>c3 W) <| Qcy (numA (0)) 126 kj (qR _) kj (fun _=>kj) ?_
  refine Qcy (numA (0)) 126 kj (qR _) kj (fun _=>kj) <| QaH (hF _ kj fun W9 e9=>?_)
  simp only [fins,up,zap,zaq,zar,zas,zat,zau]
  intro g11 l11 r11_9 n11 g12 l12 r12_9 n12
  have n12_11:g12≠g11:=n12 _ (by simp)
  clear hF
  refine Qai g11 _ (numA (s2)) 126 r11_9 rfl kj (Qag 126 _ _ g11 126 _ _ r11_9 rfl kj kj (isz (n:=4) kj kj) (eqsz (n:=4) kj kj) kj) fun W10 p10 r11_10=>?_
  have r12_10:=(zbi p10 r12_9 n12_11)
  refine Qai g12 _ (numA (s3)) 126 r12_10 rfl kj (Qag 126 _ _ g12 126 _ _ r12_10 rfl kj kj (isz (n:=4) kj kj) (eqsz (n:=4) kj kj) kj) fun W11 p11 r12_11=>?_
  have x11:=zbj p11 (zbj p10 (zbk x8 e9) (qT x8.size l11)) (qT x8.size l12)
  refine sgN hK10 <| wp_seq_k fun K13 hK13=>QbV 8 [⟨none,[(8,none)]⟩,⟨none,[(8,none)]⟩,⟨none,[(39,some 0),(40,some 1)]⟩,⟨none,[(9,none)]⟩,⟨none,[(9,none)]⟩,⟨none,[(42,some 3),(43,some 4)]⟩,⟨none,[]⟩,⟨none,[]⟩] [6,7] kj kj kj fun F hF=>?_
  have r8_8:=(zbi p8 r8_7 (Ne.symm n9_8))
  have r8_11:=(zbi p11 (rpn p10 r8_8 e9 l11) (Qad r8_8 l12))
  refine Qax (.agg (numA (s0))) kj kj (fun W hR=>(Qae 126 _ g8 126 _ _ (Qaa (Qaa r8_11 (Qah _)) hR) rfl kj kj (isz (n:=4) kj kj))) <| Qax (.agg (numA (s0))) kj kj (fun W hR=>(Qae 126 _ g8 126 _ _ (Qaa (Qaa r8_11 (Qah _)) hR) rfl kj kj (isz (n:=4) kj kj))) <| QaI (.agg (numA (s4))) 94 #[.agg (numA (s0)),.agg (numA (s0))] kj kj (fun _=>kj) (fun W hR=>c4 W) ?_
  have r9_11:=(zbi p11 (rpn p10 r9_8 e9 l11) (Qad r9_8 l12))
  refine Qax (.agg (numA (s1))) kj kj (fun W hR=>(Qae 126 _ g9 126 _ _ (Qaa (Qaa r9_11 (Qah _)) hR) rfl kj kj (isz (n:=4) kj kj))) <| Qax (.agg (numA (s1))) kj kj (fun W hR=>(Qae 126 _ g9 126 _ _ (Qaa (Qaa r9_11 (Qah _)) hR) rfl kj kj (isz (n:=4) kj kj))) <| QaI (.agg (numA (s5))) 94 #[.agg (numA (s1)),.agg (numA (s1))] kj kj (fun _=>kj) (fun W hR=>c5 W) <| Qcy (numA (0)) 126 kj (qR _) kj (fun _=>kj) <| Qcy (numA (0)) 126 kj (qR _) kj (fun _=>kj) <| QaH (hF _ kj fun W12 e12=>?_)
  simp only [fins,up,zap,zaq,zar,zas,zat,zau]
  intro g14 l14 r14_12 n14 g15 l15 r15_12 n15
  have n15_14:g15≠g14:=n15 _ (by simp)
  clear hF
  refine Qai g14 _ (numA (s4)) 126 r14_12 rfl kj (Qag 126 _ _ g14 126 _ _ r14_12 rfl kj kj (isz (n:=4) kj kj) (eqsz (n:=4) kj kj) kj) fun W13 p13 r14_13=>?_
  have r15_13:=(zbi p13 r15_12 n15_14)
  refine Qai g15 _ (numA (s5)) 126 r15_13 rfl kj (Qag 126 _ _ g15 126 _ _ r15_13 rfl kj kj (isz (n:=4) kj kj) (eqsz (n:=4) kj kj) kj) fun W14 p14 r15_14=>sgN hK13 <| sgC fun K16 hK16=>?_
  have r14_14:=(zbi p14 r14_13 (Ne.symm n15_14))
  refine Qac (.agg (numA (s4))) 45 rfl kj (Qae 126 _ g14 126 _ _ r14_14 rfl kj kj (isz (n:=4) kj kj)) <| Qac (.agg (numA (s5))) 46 rfl kj (Qae 126 _ g15 126 _ _ r15_14 rfl kj kj (isz (n:=4) kj kj)) <| Qas (.agg (numA (s6))) 96 #[.agg (numA (s4)),.agg (numA (s5))] 47 rfl kj kj (c6 _) fun W15 e15=>?_
  have x15:=zbk (zbj p14 (zbj p13 (zbk x11 e12) (qT x11.size l14)) (qT x11.size l15)) e15
  refine Qbi (numA (0)) (numA (s6)) 126 14 4 rfl kj kj rfl (fun _=>kj) rfl (fun _=>kj) (fun _=>kj) kj kj kj kj fun g17 W17 l17 e17 r17_17=>?_
  have b17:=qT x15.size l17
  have x17:=zbk x15 e17
  refine sgN hK16 <| wp_seq_k fun K18 hK18=>QbV 8 [⟨none,[(11,none)]⟩,⟨none,[(8,none)]⟩,⟨none,[(48,some 0),(49,some 1)]⟩,⟨none,[(10,none)]⟩,⟨none,[(9,none)]⟩,⟨none,[(51,some 3),(52,some 4)]⟩,⟨none,[]⟩,⟨none,[]⟩] [6,7] kj kj kj fun F hF=>Qax (.agg (numA (s3))) kj kj (fun W hR=>(Qae 126 _ g12 126 _ _ (Qaa (Qaa (Qaa (Qaa (zbi p14 (rpn p13 r12_11 e12 l14) (Qad r12_11 l15)) e15) e17) (Qah _)) hR) rfl kj kj (isz (n:=4) kj kj))) <| Qax (.agg (numA (s0))) kj kj (fun W hR=>(Qae 126 _ g8 126 _ _ (Qaa (Qaa (Qaa (Qaa (zbi p14 (rpn p13 r8_11 e12 l14) (Qad r8_11 l15)) e15) e17) (Qah _)) hR) rfl kj kj (isz (n:=4) kj kj))) <| QaI (.agg (numA (s7))) 94 #[.agg (numA (s3)),.agg (numA (s0))] kj kj (fun _=>kj) (fun W hR=>c7 W) ?_
  have r11_11:=(zbi p11 r11_10 (Ne.symm n12_11))
  refine Qax (.agg (numA (s2))) kj kj (fun W hR=>(Qae 126 _ g11 126 _ _ (Qaa (Qaa (Qaa (Qaa (zbi p14 (rpn p13 r11_11 e12 l14) (Qad r11_11 l15)) e15) e17) (Qah _)) hR) rfl kj kj (isz (n:=4) kj kj))) <| Qax (.agg (numA (s1))) kj kj (fun W hR=>(Qae 126 _ g9 126 _ _ (Qaa (Qaa (Qaa (Qaa (zbi p14 (rpn p13 r9_11 e12 l14) (Qad r9_11 l15)) e15) e17) (Qah _)) hR) rfl kj kj (isz (n:=4) kj kj))) <| QaI (.agg (numA (s8))) 94 #[.agg (numA (s2)),.agg (numA (s1))] kj kj (fun _=>kj) (fun W hR=>c8 W) <| Qcy (numA (0)) 126 kj (qR _) kj (fun _=>kj) <| Qcy (numA (0)) 126 kj (qR _) kj (fun _=>kj) <| QaH (hF _ kj fun W18 e18=>?_)
  simp only [fins,up,zap,zaq,zar,zas,zat,zau]
  intro g19 l19 r19_18 n19 g20 l20 r20_18 n20
  have n20_19:g20≠g19:=n20 _ (by simp)
  clear hF
  refine Qai g19 _ (numA (s7)) 126 r19_18 rfl kj (Qag 126 _ _ g19 126 _ _ r19_18 rfl kj kj (isz (n:=4) kj kj) (eqsz (n:=4) kj kj) kj) fun W19 p19 r19_19=>?_
  have r20_19:=(zbi p19 r20_18 n20_19)
  refine Qai g20 _ (numA (s8)) 126 r20_19 rfl kj (Qag 126 _ _ g20 126 _ _ r20_19 rfl kj kj (isz (n:=4) kj kj) (eqsz (n:=4) kj kj) kj) fun W20 p20 r20_20=>?_
  have x20:=zbj p20 (zbj p19 (zbk x17 e18) (qT x17.size l19)) (qT x17.size l20)
  refine sgN hK18 <| wp_seq_k fun K21 hK21=>QbV 8 [⟨none,[(15,none)]⟩,⟨none,[(16,none)]⟩,⟨none,[(54,some 0),(55,some 1)]⟩,⟨none,[(15,none)]⟩,⟨none,[(16,none)]⟩,⟨none,[(57,some 3),(58,some 4)]⟩,⟨none,[]⟩,⟨none,[]⟩] [6,7] kj kj kj fun F hF=>?_
  have r19_20:=(zbi p20 r19_19 (Ne.symm n20_19))
  refine Qax (.agg (numA (s7))) kj kj (fun W hR=>(Qae 126 _ g19 126 _ _ (Qaa (Qaa r19_20 (Qah _)) hR) rfl kj kj (isz (n:=4) kj kj))) <| Qax (.agg (numA (s8))) kj kj (fun W hR=>(Qae 126 _ g20 126 _ _ (Qaa (Qaa r20_20 (Qah _)) hR) rfl kj kj (isz (n:=4) kj kj))) <| QaI (.agg (numA (s9))) 109 #[.agg (numA (s7)),.agg (numA (s8))] kj kj (fun _=>kj) (fun W hR=>c9 W) <| Qax (.agg (numA (s7))) kj kj (fun W hR=>(Qae 126 _ g19 126 _ _ (Qaa (Qaa r19_20 (Qah _)) hR) rfl kj kj (isz (n:=4) kj kj))) <| Qax (.agg (numA (s8))) kj kj (fun W hR=>(Qae 126 _ g20 126 _ _ (Qaa (Qaa r20_20 (Qah _)) hR) rfl kj kj (isz (n:=4) kj kj))) <| QaI (.agg (numA (s10))) 96 #[.agg (numA (s7)),.agg (numA (s8))] kj kj (fun _=>kj) (fun W hR=>c10 W) <| Qcy (numA (0)) 126 kj (qR _) kj (fun _=>kj) <| Qcy (numA (0)) 126 kj (qR _) kj (fun _=>kj) <| QaH (hF _ kj fun W21 e21=>?_)
  simp only [fins,up,zap,zaq,zar,zas,zat,zau]
  intro g22 l22 r22_21 n22 g23 l23 r23_21 n23
  have n23_22:g23≠g22:=n23 _ (by simp)
  clear hF
  refine Qai g22 _ (numA (s9)) 126 r22_21 rfl kj (Qag 126 _ _ g22 126 _ _ r22_21 rfl kj kj (isz (n:=4) kj kj) (eqsz (n:=4) kj kj) kj) fun W22 p22 r22_22=>?_
  have r23_22:=(zbi p22 r23_21 n23_22)
  refine Qai g23 _ (numA (s10)) 126 r23_22 rfl kj (Qag 126 _ _ g23 126 _ _ r23_22 rfl kj kj (isz (n:=4) kj kj) (eqsz (n:=4) kj kj) kj) fun W23 p23 r23_23=>sgN hK21 <| wp_seq_k fun K24 hK24=>QbB (fun W=>True) [⟨none,[(12,none)]⟩,⟨none,[(13,none)]⟩,⟨none,[(60,some 0),(61,some 1)]⟩,⟨none,[(14,none)]⟩,⟨none,[(12,none)]⟩,⟨none,[(14,none)]⟩,⟨none,[]⟩,⟨none,[(65,some 5),(66,some 6)]⟩,⟨none,[(64,some 4),(67,some 7)]⟩,⟨none,[(63,some 3),(68,some 8)]⟩,⟨none,[(62,some 2),(69,some 9)]⟩,⟨none,[(17,none)]⟩,⟨none,[(17,none)]⟩,⟨none,[(71,some 11),(72,some 12)]⟩,⟨none,[(3,none)]⟩,⟨none,[(18,none)]⟩,⟨none,[(18,none)]⟩,⟨none,[(75,some 15),(76,some 16)]⟩,⟨none,[(74,some 14),(77,some 17)]⟩,⟨none,[(73,some 13),(78,some 18)]⟩,⟨none,[(6,none),(70,some 10)]⟩,⟨none,[(7,none),(79,some 19)]⟩] [] [19] kj kj kj (fun W hR=>trivial) fun F hF=>?_
  have r14_17:=(Qaa (Qaa r14_14 e15) e17)
  have r14_20:=(zbi p20 (rpn p19 r14_17 e18 l19) (Qad r14_17 l20))
  have r14_23:=(zbi p23 (rpn p22 r14_20 e21 l22) (Qad r14_20 l23))
  refine Qbz (.agg (numA (s4))) kj kj kj rfl (fun W hR=>(Qae 126 _ g14 126 _ _ (Qaa (Qaa r14_23 (Qah _)) hR) rfl kj kj (isz (n:=4) kj kj))) ?_
  have r15_17:=(Qaa (Qaa r15_14 e15) e17)
  have r15_20:=(zbi p20 (rpn p19 r15_17 e18 l19) (Qad r15_17 l20))
  refine Qbz (.agg (numA (s5))) kj kj kj rfl (fun W hR=>(Qae 126 _ g15 126 _ _ (Qaa (Qaa (zbi p23 (rpn p22 r15_20 e21 l22) (Qad r15_20 l23)) (Qah _)) hR) rfl kj kj (isz (n:=4) kj kj))) <| Qem (.agg (numA (s11))) 94 #[.agg (numA (s4)),.agg (numA (s5))] kj kj kj rfl (fun _=>kj) (fun W hR=>c11 W) ?_
  have r17_20:=(zbi p20 (rpn p19 r17_17 e18 l19) (Qad r17_17 l20))
  have r17_23:=(zbi p23 (rpn p22 r17_20 e21 l22) (Qad r17_20 l23))
  refine Qbz (.agg (numA (s6))) kj kj kj rfl (fun W hR=>(Qae 126 _ g17 126 _ _ (Qaa (Qaa r17_23 (Qah _)) hR) rfl kj kj (isz (n:=4) kj kj))) <| Qbz (.agg (numA (s4))) kj kj kj rfl (fun W hR=>(Qae 126 _ g14 126 _ _ (Qaa (Qaa r14_23 (Qah _)) hR) rfl kj kj (isz (n:=4) kj kj))) <| Qbz (.agg (numA (s6))) kj kj kj rfl (fun W hR=>(Qae 126 _ g17 126 _ _ (Qaa (Qaa r17_23 (Qah _)) hR) rfl kj kj (isz (n:=4) kj kj))) <| Qem (.agg (numA (121665))) 71 #[.int .i64 121665] kj kj kj rfl (fun _=>kj) (fun W hR=>ck W) <| Qem (.agg (numA (s12))) 94 #[.agg (numA (s6)),.agg (numA (121665))] kj kj kj rfl (fun _=>kj) (fun W hR=>c12 W) <| Qem (.agg (numA (s13))) 109 #[.agg (numA (s4)),.agg (numA (s12))] kj kj kj rfl (fun _=>kj) (fun W hR=>c13 W) <| Qem (.agg (numA (s14))) 94 #[.agg (numA (s6)),.agg (numA (s13))] kj kj kj rfl (fun _=>kj) (fun W hR=>c14 W) <| QaY (.agg (cat [numA (s11),numA (s14)])) kj kj rfl (fun _=>kj) ?_
  have r22_23:=(zbi p23 r22_22 (Ne.symm n23_22))
  refine Qbz (.agg (numA (s9))) kj kj kj rfl (fun W hR=>(Qae 126 _ g22 126 _ _ (Qaa (Qaa r22_23 (Qah _)) hR) rfl kj kj (isz (n:=4) kj kj))) <| Qbz (.agg (numA (s9))) kj kj kj rfl (fun W hR=>(Qae 126 _ g22 126 _ _ (Qaa (Qaa r22_23 (Qah _)) hR) rfl kj kj (isz (n:=4) kj kj))) <| Qem (.agg (numA (s15))) 94 #[.agg (numA (s9)),.agg (numA (s9))] kj kj kj rfl (fun _=>kj) (fun W hR=>c15 W) ?_
  have r2_5:=(Qaa (Qaa (Qaa (Qaa r2_1 e2) e3) e4) e5)
  have r2_8:=(zbi p8 (rpn p7 r2_5 e6 l8) (Qad r2_5 l9))
  have r2_11:=(zbi p11 (rpn p10 r2_8 e9 l11) (Qad r2_8 l12))
  have r2_17:=(Qaa (Qaa (zbi p14 (rpn p13 r2_11 e12 l14) (Qad r2_11 l15)) e15) e17)
  have r2_20:=(zbi p20 (rpn p19 r2_17 e18 l19) (Qad r2_17 l20))
  refine Qbz (.agg (numA (u))) kj kj kj rfl (fun W hR=>(Qae 126 _ g2 126 _ _ (Qaa (Qaa (zbi p23 (rpn p22 r2_20 e21 l22) (Qad r2_20 l23)) (Qah _)) hR) rfl kj kj (isz (n:=4) kj kj))) <| Qbz (.agg (numA (s10))) kj kj kj rfl (fun W hR=>(Qae 126 _ g23 126 _ _ (Qaa (Qaa r23_23 (Qah _)) hR) rfl kj kj (isz (n:=4) kj kj))) <| Qbz (.agg (numA (s10))) kj kj kj rfl (fun W hR=>(Qae 126 _ g23 126 _ _ (Qaa (Qaa r23_23 (Qah _)) hR) rfl kj kj (isz (n:=4) kj kj))) <| Qem (.agg (numA (s16))) 94 #[.agg (numA (s10)),.agg (numA (s10))] kj kj kj rfl (fun _=>kj) (fun W hR=>c16 W) <| Qem (.agg (numA (s17))) 94 #[.agg (numA (u)),.agg (numA (s16))] kj kj kj rfl (fun _=>kj) (fun W hR=>c17 W) <| QaY (.agg (cat [numA (s15),numA (s17)])) kj kj rfl (fun _=>kj) <| Qb0 rfl <| Qb0 rfl <| QeY (hF _ kj fun W24 e24=>?_)
  simp only [zat,zau,fins,up]
  clear hF
  have r5_5:=(Qaa r5_4 e5)
  have r5_8:=(zbi p8 (rpn p7 r5_5 e6 l8) (Qad r5_5 l9))
  have r5_11:=(zbi p11 (rpn p10 r5_8 e9 l11) (Qad r5_8 l12))
  have r5_17:=(Qaa (Qaa (zbi p14 (rpn p13 r5_11 e12 l14) (Qad r5_11 l15)) e15) e17)
  have r5_20:=(zbi p20 (rpn p19 r5_17 e18 l19) (Qad r5_17 l20))
  have r5_24:=(Qaa (zbi p23 (rpn p22 r5_20 e21 l22) (Qad r5_20 l23)) e24)
  refine Qbv _ g5 _ (cat [numA (s11),numA (s14)]) 148 r5_24 rfl (Qag 148 _ _ g5 148 _ _ r5_24 rfl kj kj (isz (n:=8) kj kj) (eqsz (n:=8) kj kj) kj) (fun W hp=>trivial) fun W25 p25 r5_25=>?_
  have r6_8:=(zbi p8 (rpn p7 r6_5 e6 l8) (Qad r6_5 l9))
  have r6_11:=(zbi p11 (rpn p10 r6_8 e9 l11) (Qad r6_8 l12))
  have r6_17:=(Qaa (Qaa (zbi p14 (rpn p13 r6_11 e12 l14) (Qad r6_11 l15)) e15) e17)
  have r6_20:=(zbi p20 (rpn p19 r6_17 e18 l19) (Qad r6_17 l20))
  have r6_25:=(zbi p25 (Qaa (zbi p23 (rpn p22 r6_20 e21 l22) (Qad r6_20 l23)) e24) (Qap r5_4 l6))
  refine Qbv _ g6 _ (cat [numA (s15),numA (s17)]) 148 r6_25 rfl (Qag 148 _ _ g6 148 _ _ r6_25 rfl kj kj (isz (n:=8) kj kj) (eqsz (n:=8) kj kj) kj) (fun W hp=>trivial) fun W26 p26 r6_26=>Qd8 <| hK24 _ _ <| wp_ret ?_
  exact (show bodyPost _ _ _ .ret _ _ from ret2 (.agg (cat [numA (s11),numA (s14)])) (.agg (cat [numA (s15),numA (s17)])) rfl (QaU g5 148 _ (zbi p26 r5_25 (Qad r5_4 l6)) kj kj (isz (n:=8) kj kj)) (QaU g6 148 _ r6_26 kj kj (isz (n:=8) kj kj)) ⟨rfl,(zbj p26 (zbj p25 (zbk (zbj p23 (zbj p22 (zbk x20 e21) (qT x20.size l22)) (qT x20.size l23)) e24) (qT x3.size l5)) (qT x4.size l6))⟩)
end Field
end
section
namespace Field
open Go Go.RowKit
open Rely Auto Ladder
def lstep (u x z y v:Int):Int×Int×Int×Int :=
  let s0:=(x+z)%p
  let s1:=(x-z)%p
  let s2:=(y+v)%p
  let s3:=(y-v)%p
  let s4:=s0*s0%p
  let s5:=s1*s1%p
  let s6:=(s4-s5)%p
  let s7:=s3*s0%p
  let s8:=s2*s1%p
  let s9:=(s7+s8)%p
  let s10:=(s7-s8)%p
  let s11:=s4*s5%p
  let s12:=s6*121665%p
  let s13:=(s4+s12)%p
  let s14:=s6*s13%p
  let s15:=s9*s9%p
  let s16:=s10*s10%p
  let s17:=u*s16%p
  (s11,s14,s15,s17)
abbrev LSt := Int × Int × Int × Int
def rung (u : Int) (s:LSt) (b:Bool):LSt :=
  if b then let r:=lstep u s.2.2.1 s.2.2.2 s.1 s.2.1; (r.2.2.1,r.2.2.2,r.1,r.2.1) else lstep u s.1 s.2.1 s.2.2.1 s.2.2.2
def rungs (u : Int) (bs:List Bool):LSt:=bs.foldl (rung u) (1,0,u,1)
theorem Qfq (u : Int) (bs:List Bool) (b:Bool):rungs u (bs++[b])=rung u (rungs u bs) b:=by simp [rungs]
def isL (s : LSt):Prop:=isN s.1∧isN s.2.1∧isN s.2.2.1∧isN s.2.2.2
theorem Qiy (u x z y v:Int):isL (lstep u x z y v):=⟨QaF _,QaF _,QaF _,QaF _⟩
theorem Qnd (u : Int) (s:LSt) (b:Bool):isL (rung u s b):=by
  have h:=Qiy u s.2.2.1 s.2.2.2 s.1 s.2.1
  cases b
  · exact Qiy _ _ _ _ _
  · exact ⟨h.2.2.1,h.2.2.2,h.1,h.2.1⟩
theorem Qj8 : isN 0:=by unfold isN p; decide
theorem Qep (u : Int) (hu:isN u) (bs:List Bool):isL (rungs u bs):=by
  rcases List.eq_nil_or_concat bs with h | ⟨l,b,h⟩
  · subst h; exact ⟨Qji,Qj8,hu,Qji⟩
  · subst h; rw [List.concat_eq_append,Qfq]; exact Qnd _ _ _
def QgS (u : Int) (bs:List Bool):Int:=(rungs u bs).1*invN (rungs u bs).2.1%p
theorem Qfp (n : Int) (h:0≤n∧n<1000000) (w:World):Calls Tryz.prog 71 #[.int .i64 n] w (Ret w (num n)):=by
  have:=QhT n (by omega) w
  rw [show n%p=n from zav h.1 (by unfold p; omega)] at this
  exact this
theorem step (u x z y v:Int) (hu:isN u) (hx:isN x) (hz:isN z) (hy:isN y) (hv:isN v) (w:World) :
    Calls Tryz.prog 93 #[num u,.agg (cat [numA x,numA z]),.agg (cat [numA y,numA v])] w
      (Ret w (.tuple #[.agg (cat [numA (lstep u x z y v).1,numA (lstep u x z y v).2.1]),.agg (cat [numA (lstep u x z y v).2.2.1,numA (lstep u x z y v).2.2.2])])):=by
  have m:∀ n:Int,isN (n%p):=QaF
  have k:isN 121665:=by unfold isN p; decide
  exact Qlu u x z y v _ _ _ _ _ _ _ _ _ _ _ _ _ _ _ _ _ _ (Qfp 121665 (by decide)) (add x z hx hz) (sub x z hx hz) (add y v hy hv) (sub y v hy hv) (mul _ _ (m _) (m _)) (mul _ _ (m _) (m _)) (sub _ _ (m _) (m _)) (mul _ _ (m _) (m _)) (mul _ _ (m _) (m _)) (add _ _ (m _) (m _)) (sub _ _ (m _) (m _)) (mul _ _ (m _) (m _)) (mul _ _ (m _) k) (add _ _ (m _) (m _)) (mul _ _ (m _) (m _)) (mul _ _ (m _) (m _)) (mul _ _ (m _) (m _)) (mul _ _ hu (m _)) w
theorem Qlc (es : List Int) (w:World):Calls Tryz.prog 91 #[.agg (ints .u8 es)] w fun e w'=>∃ v,e=.returned v∧Ext w w'∧∃ kb,w.heap.size≤kb∧v=.func (.func 108) #[] #[.pointer (some ⟨kb,0,none⟩)]∧w'.heap[kb]? = some (.cells (ints .u8 es) 23):=by
  have hmf:∀ (fn:Fn) (first cap:Array Value) (w:World),(Instr.makeFunc fn first cap).run Tryz.prog w=.ok (.func fn first cap) w:=fun _ _ _ _=>rfl
  go_enter Tryz.func91,Tryz.ntmps91
  go_wp2_with fail
  exact bodyPost_ret (results_tmp rfl _ _ _) rfl ⟨_,rfl,QaK _ _,w.heap.size,qR _,rfl,heap_alloc_new _ _⟩
theorem hcs_ (xs : List Int) (hx:xs.length=32):(ints .u8 (clamp xs)).size=32:=by rw [QaD]; simp [clamp,hx]
theorem Qg3 (xs : List Int) (hx:xs.length=32) (hb:Qaf xs):Qaf (clamp xs):=by
  intro z hz
  unfold clamp at hz
  rcases zaw hz with h | h
  · rcases zaw h with h | h
    · exact hb z h
    · have:=hb.nth 0; omega
  · have:=hb.nth 31; omega
end Field
end
section
namespace Field
open Go Go.RowKit
open Rely Auto Ladder
theorem climb (xs : List Int) (hx:xs.length=32) (hb:Qaf xs) (u:Int) (hu:isN u) (w:World) :
    Calls Tryz.prog 70 #[.agg (ints .u8 xs),num u] w (Ret w (num (QgS u (QbA (clamp xs))))):=by
  have hcs:=hcs_ xs hx
  have hxs:(ints .u8 xs).size=32:=by rw [QaD,hx]
  have hcl:(clamp xs).length=32:=by simp [clamp,hx]
  have hcb:=Qg3 xs hx hb
  refine Qm1 43 [(0,.agg (ints .u8 xs)),(1,.agg (numA (u)))] Tryz.func70 rfl rfl kj rfl <| sgC fun K1 hK1=>Qak (ints .u8 xs) 23 2 rfl kj kj fun g2 W1 l2 e1 r2_1=>?_
  have x1:=zbk (zbg w) e1
  have b2:=qT (zbg w).size l2
  refine Qak (numA (u)) 126 3 rfl kj kj fun g3 W2 l3 e2 r3_2=>?_
  have x2:=zbk x1 e2
  have b3:=qT x1.size l3
  refine Qak (numA (0)) 126 4 rfl kj kj fun g4 W3 l4 e3 r4_3=>?_
  have x3:=zbk x2 e3
  refine sgN hK1 <| wp_seq_k fun K5 hK5=>QbV 8 [⟨none,[]⟩,⟨none,[]⟩,⟨none,[(7,some 0),(8,some 1)]⟩,⟨none,[(3,none)]⟩,⟨none,[]⟩,⟨none,[(10,some 3),(11,some 4)]⟩,⟨none,[(9,some 2),(12,some 5)]⟩,⟨none,[]⟩] [7] kj kj kj fun F hF=>QaI (.agg (numA (1))) 71 #[.int .i64 1] kj kj (fun _=>kj) (fun W hR=>(Qfp 1 (by decide)) W) <| QaI (.agg (numA (0))) 71 #[.int .i64 0] kj kj (fun _=>kj) (fun W hR=>(Qfp 0 (by decide)) W) <| Qal (.agg (cat [numA (1),numA (0)])) kj kj (fun _=>kj) ?_
  have r3_3:=(Qaa r3_2 e3)
  refine Qax (.agg (numA (u))) kj kj (fun W hR=>(Qae 126 _ g3 126 _ _ (Qaa (Qaa r3_3 (Qah _)) hR) rfl kj kj (isz (n:=4) kj kj))) <| QaI (.agg (numA (1))) 71 #[.int .i64 1] kj kj (fun _=>kj) (fun W hR=>(Qfp 1 (by decide)) W) <| Qal (.agg (cat [numA (u),numA (1)])) kj kj (fun _=>kj) <| Qal (.agg (cat [numA (1),numA (0),numA (u),numA (1)])) kj kj (fun _=>kj) <| Qcy (cat [numA (0),numA (0),numA (0),numA (0)]) 149 kj (qR _) kj (fun _=>kj) <| QaH (hF _ kj fun W4 e4=>?_)
  simp only [fins,up,zap,zaq,zar,zas,zat,zau]
  intro g6 l6 r6_4 n6
  have b6:=qT x3.size l6
  clear hF
  refine Qai g6 _ (cat [numA (1),numA (0),numA (u),numA (1)]) 149 r6_4 rfl kj (Qag 149 _ _ g6 149 _ _ r6_4 rfl kj kj (isz (n:=16) kj kj) (eqsz (n:=16) kj kj) kj) fun W5 p5 r6_5=>sgN hK5 <| wp_seq_k fun K7 hK7=>sgC fun K8 hK8=>Qac (.agg (ints .u8 xs)) 14 rfl kj (Qae 23 _ g2 23 _ _ (zbi p5 (Qaa (Qaa (Qaa r2_1 e2) e3) e4) (Qad (Qaa (Qaa r2_1 e2) e3) l6)) rfl kj kj (isz (n:=32) kj hxs)) <| Qas (.agg (ints .u8 (clamp xs))) 92 #[.agg (ints .u8 xs)] 15 rfl kj kj ((Qq2 xs hx hb) _) fun W6 e6=>Qaw (fun v W'=>Ext W6 W'∧∃ kb,W6.heap.size≤kb∧v=.func (.func 108) #[] #[.pointer (some ⟨kb,0,none⟩)]∧W'.heap[kb]? = some (.cells (ints .u8 (clamp xs)) 23)) 91 #[.agg (ints .u8 (clamp xs))] 16 rfl kj kj (Qlc _ _) fun v W7 h=>?_
  obtain ⟨e7,kb,lk,rfl,r9_7⟩:=h
  have x7:=zbk (zbk (zbj p5 (zbk x3 e4) b6) e6) e7
  refine sgN hK8 <| wp_block ?_
  have n_gu_gs:g3≠g6:=(Qad r3_3 l6)
  have n_gr_gs:g4≠g6:=(Qad r4_3 l6)
  have n_kb_gs:kb≠g6:=(Qap (Qaa r6_5 e6) lk)
  refine QkC (gf:=108) (lb:=#[.pointer (some ⟨kb,0,none⟩)]) (enc:=encB) kj (enters_of Tryz.func108 kj rfl) (QiG _ (by omega) kb (clamp xs) hcl hcb W7 r9_7) (fun h k=>Same.trans' h k) (Ql2 (Qa7 r9_7)) (Below.refl _ _)
      (fun pre W=>(W.heap[g6]? = some (.cells (cat [numA (rungs u pre).1,numA (rungs u pre).2.1,numA (rungs u pre).2.2.1,numA (rungs u pre).2.2.2]) 149)∧W.heap[g3]? = some (.cells (numA u) 126)∧W.heap[g4]? = some (.cells (numA 0) 126)∧W.heap[kb]? = some (.cells (ints .u8 (clamp xs)) 23))∧Ext w W)
      (fun _ _ _=>False) (OwnFrom.and (Own.from (fun s A B row hs hg hr=>⟨Qbx hs.1 hg hr,Qbx hs.2.1 hg hr,Qbx hs.2.2.1 hg hr,Qbx hs.2.2.2 hg hr⟩) _) (ownFrom_below (qR _) x7.size)) (fun _ _ _ _ _ h _ _=>h) ⟨⟨(Qaa (Qaa r6_5 e6) e7),(Qaa (Qaa (rpn p5 r3_3 e4 l6) e6) e7),(Qaa (Qaa (rpn p5 r4_3 e4 l6) e6) e7),r9_7⟩,x7⟩ (fun x=>[(6,encB x),(17,encB x)]) (fun l x W K hK=>?_) (fun l pre x W hI hp=>?_) (fun D ys W lD hS hI rD=>?_) (fun _ _ _ _ _ _ h _=>h.elim)
  · refine Qb7 ?_
    refine QbZ (encB x) 6 rfl (Qbe l 1 _) rfl kj kj <| Qd2 ?_
    exact hK
  · obtain ⟨⟨rs,ru,rr,rk⟩,xx⟩:=hI
    have hS0:=Qfq u pre x
    have hL:=Qep u hu pre
    generalize rungs u pre=st at hS0 hL rs
    obtain ⟨a,b,c,d⟩:=st
    cases x
    · have cs:=step u a b c d hu hL.1 hL.2.1 hL.2.2.1 hL.2.2.2
      generalize hn:lstep u a b c d=r at cs
      obtain ⟨n1,n2,n3,n4⟩:=r
      have hS:rungs u (pre++[false])=(n1,n2,n3,n4):=by
        rw [hS0]
        simp only [rung,hn,Bool.false_eq_true,if_false]
      clear hS0 hn
      have ls:=b6
      refine wpIn_block <| QgV (fun W=>True) [⟨none,[(6,none)]⟩,⟨none,[(6,none)]⟩,⟨none,[(20,some 1)]⟩,⟨none,[(3,none)]⟩,⟨none,[(6,none)]⟩,⟨none,[(5,none),(23,some 4)]⟩,⟨none,[(24,some 5)]⟩,⟨none,[(6,none)]⟩,⟨none,[(26,some 7)]⟩,⟨none,[(5,none),(27,some 8)]⟩,⟨none,[(28,some 9)]⟩,⟨none,[(22,some 3),(25,some 6),(29,some 10)]⟩,⟨none,[(30,some 11)]⟩,⟨none,[(18,some 12)]⟩,⟨none,[(18,some 12)]⟩,⟨none,[(5,none),(19,some 0)]⟩,⟨none,[(33,some 15),(31,some 13)]⟩,⟨none,[(5,none),(21,some 2)]⟩,⟨none,[(34,some 17),(32,some 14)]⟩] [] [1,2,14,17] (Qbe l 1 _) rfl kj kj kj (fun W hR=>trivial) fun F hF=>QaY (.int .i64 0) kj kj rfl (fun _=>kj) <| QaY (.int .i64 0) kj kj rfl (fun _=>kj) <| QaY (.int .i64 1) kj kj rfl (fun _=>kj) <| Qbz (.agg (numA (u))) kj kj kj rfl (fun W hR=>(Qae 126 _ g3 126 _ _ (Qaa (Qaa ru (Qah _)) hR) rfl kj kj (isz (n:=4) kj kj))) <| QaY (.int .i64 0) kj kj rfl (fun _=>kj) <| QaY (.pointer (some ⟨g6,0,none⟩)) kj kj rfl (fun _=>kj) <| Qbz (.agg (cat [numA (a),numA (b)])) kj kj kj rfl (fun W hR=>(Qan 148 _ g6 0 149 _ _ _ (Qaa (Qaa rs (Qah _)) hR) rfl kj (Qaq [] [numA (a),numA (b)] [numA (c),numA (d)] 0 kj) kj (isz (n:=8) kj kj))) <| QaY (.int .i64 0) kj kj rfl (fun _=>kj) ?_
      refine QaY (.int .i64 1) kj kj rfl (fun _=>kj) <| QaY (.pointer (some ⟨g6,8,none⟩)) kj kj rfl (fun _=>kj) <| Qbz (.agg (cat [numA (c),numA (d)])) kj kj kj rfl (fun W hR=>(Qan 148 _ g6 8 149 _ _ _ (Qaa (Qaa rs (Qah _)) hR) rfl kj (Qaq [numA (a),numA (b)] [numA (c),numA (d)] [] 8 kj) kj (isz (n:=8) kj kj))) <| Qem (.tuple #[.agg (cat [numA (n1),numA (n2)]),.agg (cat [numA (n3),numA (n4)])]) 93 #[.agg (numA (u)),.agg (cat [numA (a),numA (b)]),.agg (cat [numA (c),numA (d)])] kj kj kj rfl (fun _=>kj) (fun W hR=>cs W) <| QaY (.tuple #[.agg (cat [numA (n1),numA (n2)]),.agg (cat [numA (n3),numA (n4)])]) kj kj rfl (fun _=>kj) <| QaY (.agg (cat [numA (n1),numA (n2)])) kj kj rfl (fun _=>kj) <| QaY (.agg (cat [numA (n3),numA (n4)])) kj kj rfl (fun _=>kj) <| QaY (.pointer (some ⟨g6,0,none⟩)) kj kj rfl (fun _=>kj) <| Qb0 rfl <| QaY (.pointer (some ⟨g6,8,none⟩)) kj kj rfl (fun _=>kj) ?_
      refine Qb0 rfl <| QeY (hF _ kj fun W1 e1=>?_)
      simp only [zat,zau,fins,up]
      clear hF
      have x1:=zbk xx e1
      have r102_1:=(Qaa rs e1)
      refine Qbv _ g6 _ (cat [numA (n1),numA (n2),numA (c),numA (d)]) 149 r102_1 rfl (Qbm 148 _ _ g6 0 149 [] [numA (a),numA (b)] [numA (n1),numA (n2)] [numA (c),numA (d)] r102_1 rfl kj kj (isz (n:=8) kj kj) kj (eqsz (n:=8) kj kj) kj) (fun W hp=>trivial) fun W2 p2 r102_2=>?_
      have x2:=zbj p2 x1 ls
      refine Qbv _ g6 _ (cat [numA (n1),numA (n2),numA (n3),numA (n4)]) 149 r102_2 rfl (Qbm 148 _ _ g6 8 149 [numA (n1),numA (n2)] [numA (c),numA (d)] [numA (n3),numA (n4)] [] r102_2 rfl kj kj (isz (n:=8) kj kj) kj (eqsz (n:=8) kj kj) kj) (fun W hp=>trivial) fun W3 p3 r102_3=>?_
      have x3:=zbj p3 x2 ls
      refine Qd8 ?_
      have r101_3:=(zbi p3 (zbi p2 (Qaa ru e1) n_gu_gs) n_gu_gs)
      have r103_3:=(zbi p3 (zbi p2 (Qaa rr e1) n_gr_gs) n_gr_gs)
      have r104_3:=(zbi p3 (zbi p2 (Qaa rk e1) n_kb_gs) n_kb_gs)
      exact ⟨(((Qd1 e1).trans (Qdt p2 r102_1)).trans (Qdt p3 r102_2)),r104_3.trans rk.symm,⟨by rw [hS]; exact r102_3,r101_3,r103_3,r104_3⟩,x3⟩
    · have cs:=step u c d a b hu hL.2.2.1 hL.2.2.2 hL.1 hL.2.1
      generalize hn:lstep u c d a b=r at cs
      obtain ⟨n1,n2,n3,n4⟩:=r
      have hS:rungs u (pre++[true])=(n3,n4,n1,n2):=by
        rw [hS0]
        simp only [rung,hn,if_true]
      clear hS0 hn
      have ls:=b6
      refine wpIn_block <| QgV (fun W=>True) [⟨none,[(6,none)]⟩,⟨none,[(6,none)]⟩,⟨none,[(20,some 1)]⟩,⟨none,[(3,none)]⟩,⟨none,[(6,none)]⟩,⟨none,[(5,none),(23,some 4)]⟩,⟨none,[(24,some 5)]⟩,⟨none,[(6,none)]⟩,⟨none,[(26,some 7)]⟩,⟨none,[(5,none),(27,some 8)]⟩,⟨none,[(28,some 9)]⟩,⟨none,[(22,some 3),(25,some 6),(29,some 10)]⟩,⟨none,[(30,some 11)]⟩,⟨none,[(18,some 12)]⟩,⟨none,[(18,some 12)]⟩,⟨none,[(5,none),(19,some 0)]⟩,⟨none,[(33,some 15),(31,some 13)]⟩,⟨none,[(5,none),(21,some 2)]⟩,⟨none,[(34,some 17),(32,some 14)]⟩] [] [1,2,14,17] (Qbe l 1 _) rfl kj kj kj (fun W hR=>trivial) fun F hF=>QaY (.int .i64 1) kj kj rfl (fun _=>kj) <| QaY (.int .i64 1) kj kj rfl (fun _=>kj) <| QaY (.int .i64 0) kj kj rfl (fun _=>kj) <| Qbz (.agg (numA (u))) kj kj kj rfl (fun W hR=>(Qae 126 _ g3 126 _ _ (Qaa (Qaa ru (Qah _)) hR) rfl kj kj (isz (n:=4) kj kj))) <| QaY (.int .i64 1) kj kj rfl (fun _=>kj) <| QaY (.pointer (some ⟨g6,8,none⟩)) kj kj rfl (fun _=>kj) <| Qbz (.agg (cat [numA (c),numA (d)])) kj kj kj rfl (fun W hR=>(Qan 148 _ g6 8 149 _ _ _ (Qaa (Qaa rs (Qah _)) hR) rfl kj (Qaq [numA (a),numA (b)] [numA (c),numA (d)] [] 8 kj) kj (isz (n:=8) kj kj))) <| QaY (.int .i64 1) kj kj rfl (fun _=>kj) ?_
      refine QaY (.int .i64 0) kj kj rfl (fun _=>kj) <| QaY (.pointer (some ⟨g6,0,none⟩)) kj kj rfl (fun _=>kj) <| Qbz (.agg (cat [numA (a),numA (b)])) kj kj kj rfl (fun W hR=>(Qan 148 _ g6 0 149 _ _ _ (Qaa (Qaa rs (Qah _)) hR) rfl kj (Qaq [] [numA (a),numA (b)] [numA (c),numA (d)] 0 kj) kj (isz (n:=8) kj kj))) <| Qem (.tuple #[.agg (cat [numA (n1),numA (n2)]),.agg (cat [numA (n3),numA (n4)])]) 93 #[.agg (numA (u)),.agg (cat [numA (c),numA (d)]),.agg (cat [numA (a),numA (b)])] kj kj kj rfl (fun _=>kj) (fun W hR=>cs W) <| QaY (.tuple #[.agg (cat [numA (n1),numA (n2)]),.agg (cat [numA (n3),numA (n4)])]) kj kj rfl (fun _=>kj) <| QaY (.agg (cat [numA (n1),numA (n2)])) kj kj rfl (fun _=>kj) <| QaY (.agg (cat [numA (n3),numA (n4)])) kj kj rfl (fun _=>kj) <| QaY (.pointer (some ⟨g6,8,none⟩)) kj kj rfl (fun _=>kj) <| Qb0 rfl <| QaY (.pointer (some ⟨g6,0,none⟩)) kj kj rfl (fun _=>kj) ?_
      refine Qb0 rfl <| QeY (hF _ kj fun W1 e1=>?_)
      simp only [zat,zau,fins,up]
      clear hF
      have x1:=zbk xx e1
      have r102_1:=(Qaa rs e1)
      refine Qbv _ g6 _ (cat [numA (a),numA (b),numA (n1),numA (n2)]) 149 r102_1 rfl (Qbm 148 _ _ g6 8 149 [numA (a),numA (b)] [numA (c),numA (d)] [numA (n1),numA (n2)] [] r102_1 rfl kj kj (isz (n:=8) kj kj) kj (eqsz (n:=8) kj kj) kj) (fun W hp=>trivial) fun W2 p2 r102_2=>?_
      have x2:=zbj p2 x1 ls
      refine Qbv _ g6 _ (cat [numA (n3),numA (n4),numA (n1),numA (n2)]) 149 r102_2 rfl (Qbm 148 _ _ g6 0 149 [] [numA (a),numA (b)] [numA (n3),numA (n4)] [numA (n1),numA (n2)] r102_2 rfl kj kj (isz (n:=8) kj kj) kj (eqsz (n:=8) kj kj) kj) (fun W hp=>trivial) fun W3 p3 r102_3=>?_
      have x3:=zbj p3 x2 ls
      refine Qd8 ?_
      have r101_3:=(zbi p3 (zbi p2 (Qaa ru e1) n_gu_gs) n_gu_gs)
      have r103_3:=(zbi p3 (zbi p2 (Qaa rr e1) n_gr_gs) n_gr_gs)
      have r104_3:=(zbi p3 (zbi p2 (Qaa rk e1) n_kb_gs) n_kb_gs)
      exact ⟨(((Qd1 e1).trans (Qdt p2 r102_1)).trans (Qdt p3 r102_2)),r104_3.trans rk.symm,⟨by rw [hS]; exact r102_3,r101_3,r103_3,r104_3⟩,x3⟩
  obtain ⟨⟨rs,ru,rr,rk⟩,xx⟩:=hI
  subst hS
  have hL:=Qep u hu (QbA (clamp xs))
  have bD:w.heap.size≤D:=qT x7.size lD
  refine hK7 _ _ <| wp_seq_k fun K11 hK11=>QaQ 8 [⟨none,[(5,none)]⟩,⟨none,[(35,some 0)]⟩,⟨none,[(36,some 1)]⟩,⟨none,[(5,none)]⟩,⟨none,[(38,some 3)]⟩,⟨none,[(39,some 4)]⟩,⟨none,[(40,some 5)]⟩,⟨none,[(37,some 2),(41,some 6)]⟩] kj kj fun F hF=>Qal (.pointer (some ⟨g6,0,none⟩)) kj kj (fun _=>kj) <| Qal (.pointer (some ⟨g6,0,none⟩)) kj kj (fun _=>kj) <| Qax (.agg (numA ((rungs u (QbA (clamp xs))).1))) kj kj (fun W hR=>(Qan 126 _ g6 0 149 _ _ _ (Qaa (Qaa rs (Qah _)) hR) rfl kj (Qaq [] [numA ((rungs u (QbA (clamp xs))).1)] [numA ((rungs u (QbA (clamp xs))).2.1),numA ((rungs u (QbA (clamp xs))).2.2.1),numA ((rungs u (QbA (clamp xs))).2.2.2)] 0 kj) kj (isz (n:=4) kj kj))) <| Qal (.pointer (some ⟨g6,0,none⟩)) kj kj (fun _=>kj) <| Qal (.pointer (some ⟨g6,4,none⟩)) kj kj (fun _=>kj) <| Qax (.agg (numA ((rungs u (QbA (clamp xs))).2.1))) kj kj (fun W hR=>(Qan 126 _ g6 4 149 _ _ _ (Qaa (Qaa rs (Qah _)) hR) rfl kj (Qaq [numA ((rungs u (QbA (clamp xs))).1)] [numA ((rungs u (QbA (clamp xs))).2.1)] [numA ((rungs u (QbA (clamp xs))).2.2.1),numA ((rungs u (QbA (clamp xs))).2.2.2)] 4 kj) kj (isz (n:=4) kj kj))) <| QaI (.agg (numA (invN (rungs u (QbA (clamp xs))).2.1))) 95 #[.agg (numA ((rungs u (QbA (clamp xs))).2.1))] kj kj (fun _=>kj) (fun W hR=>(inv _ hL.2.1) W) ?_
  refine QaI (.agg (numA (QgS u (QbA (clamp xs))))) 94 #[.agg (numA ((rungs u (QbA (clamp xs))).1)),.agg (numA (invN (rungs u (QbA (clamp xs))).2.1))] kj kj (fun _=>kj) (fun W hR=>(mul _ _ hL.1 (QhB _)) W) <| QaH (hF _ kj fun W9 e9=>?_)
  simp only [ups,up,zbl,zap,zaq,zar,zas,zat,zau]
  clear hF
  have r4_9:=(Qaa rr e9)
  refine Qai g4 _ (numA (QgS u (QbA (clamp xs)))) 126 r4_9 rfl kj (Qag 126 _ _ g4 126 _ _ r4_9 rfl kj kj (isz (n:=4) kj kj) (eqsz (n:=4) kj kj) kj) fun W10 p10 r4_10=>sgN hK11 <| wp_ret ?_
  have r10_10:=(zbi p10 (Qaa rD e9) (Qpj rr rD))
  exact (show bodyPostM _ _ _ _ _ .ret _ _ from Qrb (.agg (numA (QgS u (QbA (clamp xs))))) rfl r10_10 (QaU g4 126 _ (QfV r4_10 r10_10 _) kj kj (isz (n:=4) kj kj)) ⟨rfl,QfW (zbj p10 (zbk xx e9) (qT x2.size l4)) bD r10_10 _⟩)
end Field
end
section
namespace Field
open Go Go.RowKit
open Rely
theorem QgT (n : Int) (hn:0≤n∧n<9223372036854775808) (w:World):Calls Tryz.prog 40 #[.int .i64 n] w (Ret w (lnum (n%p))):=by
  have hv:pvf (nth (mix 32 (limb n) (fun _=>0) 4)) 32=n:=by
    rw [QlG _ _ (by decide),QcX,show (65536:Int)^4=18446744073709551616 by decide,zav hn.1 (by omega)]
  have HC:Hid (∀ w,Calls Tryz.prog 63 #[.agg (ints .i64 (mix 32 (limb n) (fun _=>0) 4))] w (Ret w (lnum (n%p)))):=Lib.hid fun w=>by
    have:=small (mix 32 (limb n) (fun _=>0) 4) (mix_len _ _ _ _) (Qiw _ 4 fun i _=>by
      have:=Qbg n i
      unfold M
      omega) (by
        rw [hv,show (65536:Int)^32=big*big by decide]; have:(9223372036854775808:Int)<big*big:=by decide
        omega) w
    rw [hv] at this
    exact this
  unfold lnum at HC ⊢
  have hrl:=QaW (n%p)
  generalize lims (n%p)=res at *
  clear hv
  have hneg:¬ n<0:=by omega
  go_enter Tryz.func40,Tryz.ntmps40
  go_wp2_with fail
  go_loopw [0,5] (fun c i wr=>∃ k:Nat,k≤4∧i=.int .i64 k∧c=.int .i64 (n/65536^k)∧Ext w wr∧(∃ b,b.size=16∧wr.heap[w.heap.size]? = some (.cells b 90)) ∧
    wr.heap[w.heap.size+1]? = some (.cells (ints .i64 (mix 32 (limb n) (fun _=>0) k)) 108)) (fun _ i _=>4-(intOf i).toNat)
  case atStart =>
    exact ⟨0,by omega,rfl,by simp,zbh (QaK _ _) (QaK _ _),⟨_,rfl,Qgd _ _ _⟩,Qgc _ _ _⟩
  case round =>
    obtain ⟨k,hk,rfl,rfl,he,⟨b,hbs,hB⟩,hC⟩:=hrel
    by_cases hlt:k<4
    · have hZ:(ints .i64 (mix 32 (limb n) (fun _=>0) k))[k]? = some (.int .i64 0):=by rw [Qay _ _ _ (by rw [mix_len]; omega),Qc8 _ _ _ _ _ (by omega),if_neg (by omega)]
      have hS:(ints .i64 (mix 32 (limb n) (fun _=>0) k)).setIfInBounds k (.int .i64 (limb n k))=ints .i64 (mix 32 (limb n) (fun _=>0) (k+1)):=by rw [QbP,mix_set _ _ _ _ (by omega)]
      have hd:=Qm3 n hn k
      have e1:limb n k=n/65536^k%65536:=rfl
      have e2:=Qmb n k
      rw [e1] at hS
      clear e1
      generalize hq:n/65536^k=q at *
      generalize hq':n/65536^(k+1)=q' at *
      have w2:q.tmod 65536=q%65536:=zax hd.1
      have w3:zay.wrap (q%65536)=q%65536:=IntWalk.i64_in _ (by omega)
      have w4:q.tdiv 65536=q/65536:=Int.tdiv_eq_ediv_of_nonneg hd.1
      have w5:zay.wrap (q/65536)=q/65536:=IntWalk.i64_in _ (by omega)
      have hcx:=QaO hC hZ
      have hfx:=Qb1 hC k
      have q5:(k:Int)<32:=by omega
      go_wp2
      exact ⟨⟨k+1,by omega,by go_num,by rw [hq'],QcA he (by omega) _ _,⟨b,hbs,(QaA _ _ (by omega)).trans hB⟩,(Qc5 _ _ hC).trans (by rw [hS])⟩,by simp [intOf]; omega⟩
    · obtain rfl:k=4:=by omega
      go_wp2_with first
        | (go_at_call 63
           (with_reducible refine (HC.out _).mono ?_)
           rintro e w' ⟨rfl,hw⟩
           have hB':=Qaa hB hw)
        | (with_reducible show wpList _ _ _ ((⟨_,.load 108 _,_,_,_,_⟩:Oper)::_) _ _
           refine wpList_load_row rfl 108 _ rfl (w.heap.size+1) rfl 108 _ (0,0) _ hC Tryz.underlying108 rfl (Qml _ (mix_len _ _ _ _)) ?_)
        | (with_reducible show wpList _ _ _ ((⟨_,.store 90 _ _,_,_,_,_⟩:Oper)::_) _ _
           refine wpList_store_row rfl 90 _ _ rfl w.heap.size _ rfl rfl 90 _ hB' (Qcj _ hrl) (by rw [hbs,QaD,hrl]) (ints_one _ _) ?_)
      exact bodyPost_ret (results_cell_row (p:=2) rfl _ _ w.heap.size 90 _ (0,0) _ rfl (setRow_heap _ _ _ _ _ _ hB') Tryz.underlying90 rfl (Qcj _ hrl)) rfl ⟨rfl,Qbs (zbh he hw) (qR _) _⟩
end Field
end
section
namespace Field
open Go Go.RowKit
open Rely Auto Ladder
def crungs (u : Int) (es:List Int) (k:Nat):LSt:=rungs u (((QbA es).drop 1).take (255-k))
def outN (u : Int) (s:LSt):Int:=s.1*invN s.2.1%p
theorem QgZ (u : Int) (hu:isN u) (es:List Int) (k:Nat):isL (crungs u es k):=Qep u hu _
theorem Qjy (u : Int) (es:List Int) (j:Nat) (hj:j<255):crungs u es j=rung u (crungs u es (j+1)) (bitB es j):=by
  unfold crungs
  rw [←Qfq]
  congr 1
  have e:255-j=(255-(j+1))+1:=by omega
  rw [e,List.take_add_one]
  congr 1
  have h:1+(255-(j+1))<256:=by omega
  simp only [QbA,List.getElem?_drop,List.getElem?_map,List.getElem?_range h,Option.map_some,Option.toList_some]
  rw [show 255-(1+(255-(j+1)))=j by omega]
theorem QfH {n : Int} (h:isN n):0≤n∧n≤p:=⟨h.1,zaz h.2⟩
theorem mulc (q : Int) (h:isN q) (w:World):Calls Tryz.prog 60 #[lnum 121665,lnum q] w (Ret w (lnum (q*121665%p))):=by
  have:=lMul 121665 q (by unfold big; decide) (Qa9 h) w
  rw [za0] at this
  exact this
theorem Qlp (n : Nat) (h:n<9223372036854775808):za1.wrap (n:Int)=(n:Int):=wrap64 _ (by unfold isW; omega)
theorem shr8 (v : Int) (n:Nat) (h:n<8):v.fdiv (2^min (n:Int).toNat IntKind.u8.bits)=v/2^n:=by
  rw [show min ((n:Int).toNat) IntKind.u8.bits=n by show min ((n:Int).toNat) 8=n; omega]
  exact Int.fdiv_eq_ediv_of_nonneg _ (zaz (za2 (by decide)))
theorem Qkp (es : List Int) (j:Nat) (hb:Qaf es) {v:Int} (h:Qek es j=v):za3 (nth es (j/8)/2^(j%8)) 2=v:=by
  rw [←h]
  unfold Qek
  exact zax (Int.ediv_nonneg (hb.nth _).1 (zaz (za2 (by decide))))
end Field
end
section
namespace Field
open Go Go.RowKit
open Rely Auto Ladder
set_option maxHeartbeats 8000000 in
theorem come (xs : List Int) (hx:xs.length=32) (hb:Qaf xs) (u:Int) (hu:isN u) (w:World) :
  Calls Tryz.prog 39 #[.agg (ints .u8 xs),lnum u] w (Ret w (.agg (ints .u8 (Qav (outN u (crungs u (clamp xs) 0)))))):=by
 have hcs:=hcs_ xs hx
 have hxs:(ints .u8 xs).size=32:=by rw [QaD,hx]
 have hcl:(clamp xs).length=32:=by simp [clamp,hx]
 have hcb:=Qg3 xs hx hb
 have lsk:∀ W,Calls Tryz.prog 40 #[.int .i64 121665] W (Ret W (lnum 121665)):=fun W=>by
  have:=QgT 121665 (by decide) W
  rw [show (121665:Int)%p=121665 by decide] at this
  exact this
 refine enter 112 [(0,.agg (ints .u8 xs)),(1,.agg (ints .i64 (lims (u))))] Tryz.func39 rfl rfl kj rfl <| sgC fun K1 hK1=>Qak (ints .u8 xs) 23 2 rfl kj kj fun g2 W1 l2 e1 r2_1=>?_
 have x1:=zbk (zbg w) e1
 have b2:=qT (zbg w).size l2
 refine Qak (ints .i64 (lims (u))) 90 3 rfl kj kj fun g3 W2 l3 e2 r3_2=>?_
 have x2:=zbk x1 e2
 have b3:=qT x1.size l3
 refine Qak ((zao 32 (.int .u8 0))) 23 4 rfl kj kj fun g4 W3 l4 e3 r4_3=>sgN hK1 <| sgC fun K5 hK5=>?_
 have r2_3:=(Qaa (Qaa r2_1 e2) e3)
 refine Qac (.agg (ints .u8 xs)) 24 rfl kj (Qae 23 _ g2 23 _ _ r2_3 rfl kj kj (isz (n:=32) kj hxs)) <| Qas (.agg (ints .u8 (clamp xs))) 57 #[.agg (ints .u8 xs)] 25 rfl kj kj ((Ql7 xs hx hb) _) fun W4 e4=>?_
 have x4:=zbk (zbk x2 e3) e4
 refine Qbi ((zao 32 (.int .u8 0))) (ints .u8 (clamp xs)) 23 5 32 rfl kj kj rfl (fun _=>kj) rfl (fun _=>kj) (fun _=>kj) kj hcs kj (ints_one _ _) fun g6 W6 l6 e6 r6_6=>?_
 have b6:=qT x4.size l6
 have x6:=zbk x4 e6
 refine sgN hK5 <| sgC fun K7 hK7=>sg 1 kj <| Qbi (ints .i64 (lims (0))) (ints .i64 (lims (1))) 90 6 16 rfl kj kj rfl (fun _=>kj) rfl (fun _=>kj) (fun _=>kj) kj kj kj kj fun g8 W8 l8 e8 r8_8=>?_
 have b8:=qT x6.size l8
 have x8:=zbk x6 e8
 refine sgN hK7 <| sgC fun K9 hK9=>sg 1 kj <| Qbi (ints .i64 (lims (0))) (ints .i64 (lims (0))) 90 7 16 rfl kj kj rfl (fun _=>kj) rfl (fun _=>kj) (fun _=>kj) kj kj kj kj fun g10 W10 l10 e10 r10_10=>?_
 have b10:=qT x8.size l10
 have x10:=zbk x8 e10
 refine sgN hK9 <| sgC fun K11 hK11=>?_
 have r3_6:=(Qaa (Qaa (Qaa r3_2 e3) e4) e6)
 have r3_10:=(Qaa (Qaa r3_6 e8) e10)
 refine Qac (.agg (ints .i64 (lims (u)))) 28 rfl kj (Qae 90 _ g3 90 _ _ r3_10 rfl kj kj (isz (n:=16) kj kj)) <| Qbi (ints .i64 (lims (0))) (ints .i64 (lims (u))) 90 8 16 rfl kj kj rfl (fun _=>kj) rfl (fun _=>kj) (fun _=>kj) kj kj kj kj fun g12 W12 l12 e12 r12_12=>?_
 have b12:=qT x10.size l12
 have x12:=zbk x10 e12
 refine sgN hK11 <| sgC fun K13 hK13=>sg 1 kj <| Qbi (ints .i64 (lims (0))) (ints .i64 (lims (1))) 90 9 16 rfl kj kj rfl (fun _=>kj) rfl (fun _=>kj) (fun _=>kj) kj kj kj kj fun g14 W14 l14 e14 r14_14=>?_
 have b14:=qT x12.size l14
 refine sgN hK13 <| sgC fun K15 hK15=>Qas (.agg (ints .i64 (lims (121665)))) 40 #[.int .i64 121665] 30 rfl kj kj (lsk _) fun W15 e15=>?_
 have x15:=zbk (zbk x12 e14) e15
 refine Qbi (ints .i64 (lims (0))) (ints .i64 (lims (121665))) 90 10 16 rfl kj kj rfl (fun _=>kj) rfl (fun _=>kj) (fun _=>kj) kj kj kj kj fun g16 W17 l16 e17 r16_17=>?_
 have b16:=qT x15.size l16
 refine sgN hK15 <| wp_seq_k fun K17 hK17=>sgB kj <| wp_block ?_
 obtain ⟨es,hes⟩:∃ es,es=clamp xs:=⟨_,rfl⟩
 rw [←hes] at hcs hcl hcb
 have r2_6:=(Qaa (Qaa r2_3 e4) e6)
 have r2_8:=(Qaa r2_6 e8)
 have r2_10:=(Qaa r2_8 e10)
 have r2_12:=(Qaa r2_10 e12)
 have r3_12:=(Qaa r3_10 e12)
 have r4_6:=(Qaa (Qaa r4_3 e4) e6)
 have r4_8:=(Qaa r4_6 e8)
 have r4_10:=(Qaa r4_8 e10)
 have r4_12:=(Qaa r4_10 e12)
 have r6_8:=(Qaa r6_6 e8)
 have r6_10:=(Qaa r6_8 e10)
 have r6_12:=(Qaa r6_10 e12)
 have r6_17:=(Qaa (Qaa (Qaa r6_12 e14) e15) e17)
 have r8_10:=(Qaa r8_8 e10)
 have r8_12:=(Qaa r8_10 e12)
 have r10_12:=(Qaa r10_10 e12)
 rw [←hes] at r6_17
 have n_2_6:g2≠g8:=(Qad r2_6 l8)
 have n_2_7:g2≠g10:=(Qad r2_8 l10)
 have n_2_8:g2≠g12:=(Qad r2_10 l12)
 have n_2_9:g2≠g14:=(Qad r2_12 l14)
 have n_3_6:g3≠g8:=(Qad r3_6 l8)
 have n_3_7:g3≠g10:=(Qad (Qaa r3_6 e8) l10)
 have n_3_8:g3≠g12:=(Qad r3_10 l12)
 have n_3_9:g3≠g14:=(Qad r3_12 l14)
 have n_4_6:g4≠g8:=(Qad r4_6 l8)
 have n_4_7:g4≠g10:=(Qad r4_8 l10)
 have n_4_8:g4≠g12:=(Qad r4_10 l12)
 have n_4_9:g4≠g14:=(Qad r4_12 l14)
 have n_5_6:g6≠g8:=(Qad r6_6 l8)
 have n_5_7:g6≠g10:=(Qad r6_8 l10)
 have n_5_8:g6≠g12:=(Qad r6_10 l12)
 have n_5_9:g6≠g14:=(Qad r6_12 l14)
 have n_6_7:g8≠g10:=(Qad r8_8 l10)
 have n_6_8:g8≠g12:=(Qad r8_10 l12)
 have n_6_9:g8≠g14:=(Qad r8_12 l14)
 have n_7_6:g10≠g8:=(Qap r8_8 l10)
 have n_7_8:g10≠g12:=(Qad r10_10 l12)
 have n_7_9:g10≠g14:=(Qad r10_12 l14)
 have n_8_6:g12≠g8:=(Qap r8_10 l12)
 have n_8_7:g12≠g10:=(Qap r10_10 l12)
 have n_8_9:g12≠g14:=(Qad r12_12 l14)
 have n_9_6:g14≠g8:=(Qap r8_12 l14)
 have n_9_7:g14≠g10:=(Qap r10_12 l14)
 have n_9_8:g14≠g12:=(Qap r12_12 l14)
 have n_10_6:g16≠g8:=(Qap (Qaa (Qaa r8_12 e14) e15) l16)
 have n_10_7:g16≠g10:=(Qap (Qaa (Qaa r10_12 e14) e15) l16)
 have n_10_8:g16≠g12:=(Qap (Qaa (Qaa r12_12 e14) e15) l16)
 have n_10_9:g16≠g14:=(Qap (Qaa r14_14 e15) l16)
 refine QaT (fun (k:Nat)=>[(11,.int .i64 ((k:Int)-1)),(2,.pointer (some ⟨g2,0,none⟩)),(3,.pointer (some ⟨g3,0,none⟩)),(4,.pointer (some ⟨g4,0,none⟩)),(5,.pointer (some ⟨g6,0,none⟩)),(6,.pointer (some ⟨g8,0,none⟩)),(7,.pointer (some ⟨g10,0,none⟩)),(8,.pointer (some ⟨g12,0,none⟩)),(9,.pointer (some ⟨g14,0,none⟩)),(10,.pointer (some ⟨g16,0,none⟩))]) (fun (k:Nat) W=>k≤255∧W.heap[g2]? = some (.cells (ints .u8 xs) 23)∧W.heap[g3]? = some (.cells (ints .i64 (lims u)) 90)∧W.heap[g4]? = some (.cells ((zao 32 (.int .u8 0))) 23)∧W.heap[g6]? = some (.cells (ints .u8 es) 23)∧W.heap[g8]? = some (.cells (ints .i64 (lims (crungs u es k).1)) 90)∧W.heap[g10]? = some (.cells (ints .i64 (lims (crungs u es k).2.1)) 90)∧W.heap[g12]? = some (.cells (ints .i64 (lims (crungs u es k).2.2.1)) 90)∧W.heap[g14]? = some (.cells (ints .i64 (lims (crungs u es k).2.2.2)) 90)∧W.heap[g16]? = some (.cells (ints .i64 (lims 121665)) 90)∧Ext w W) (fun k=>k) 255 ⟨kj,kj,kj,kj,kj,kj,kj,kj,kj,kj,trivial⟩ ⟨by omega,(Qaa (Qaa (Qaa r2_12 e14) e15) e17),(Qaa (Qaa (Qaa r3_12 e14) e15) e17),(Qaa (Qaa (Qaa r4_12 e14) e15) e17),r6_17,(Qaa (Qaa (Qaa r8_12 e14) e15) e17),(Qaa (Qaa (Qaa r10_12 e14) e15) e17),(Qaa (Qaa (Qaa r12_12 e14) e15) e17),(Qaa (Qaa r14_14 e15) e17),r16_17,(zbk x15 e17)⟩ fun k X W hI=>?_
 obtain ⟨hk,q2,q3,q4,q5,q6,q7,q8,q9,q10,xx⟩:=hI
 rcases k with _ | j
 ·skip
  have hL:=QgZ u hu es 0
  refine wp_seq_k fun K19 hK19=>sgB kj <| cond_false kj <| wp_exit <| hK17 _ _ <| wp_seq_k fun K21 hK21=>QaQ 5 [⟨none,[(6,none)]⟩,⟨none,[(7,none)]⟩,⟨none,[(108,some 1)]⟩,⟨none,[(107,some 0),(109,some 2)]⟩,⟨none,[(110,some 3)]⟩] kj kj fun F hF=>Qax (.agg (ints .i64 (lims ((crungs u es 0).1)))) kj kj (fun W hR=>(Qae 90 _ g8 90 _ _ (Qaa (Qaa q6 (Qah _)) hR) rfl kj kj (isz (n:=16) kj kj))) <| Qax (.agg (ints .i64 (lims ((crungs u es 0).2.1)))) kj kj (fun W hR=>(Qae 90 _ g10 90 _ _ (Qaa (Qaa q7 (Qah _)) hR) rfl kj kj (isz (n:=16) kj kj))) <| QaI (.agg (ints .i64 (lims (invN (crungs u es 0).2.1)))) 62 #[.agg (ints .i64 (lims ((crungs u es 0).2.1)))] kj kj (fun _=>kj) (fun W hR=>(lInv _ hL.2.1) W) ?_
  refine QaI (.agg (ints .i64 (lims (outN u (crungs u es 0))))) 60 #[.agg (ints .i64 (lims ((crungs u es 0).1))),.agg (ints .i64 (lims (invN (crungs u es 0).2.1)))] kj kj (fun _=>kj) (fun W hR=>(lMul _ _ (Qa9 hL.1) (Qa9 (QhB _))) W) <| QaI (.agg (ints .u8 (Qav (outN u (crungs u es 0))))) 61 #[.agg (ints .i64 (lims (outN u (crungs u es 0))))] kj kj (fun _=>kj) (fun W hR=>(Qqw _) W) <| QaH (hF _ kj fun W19 e19=>?_)
  simp only [ups,up,zbl,zap,zaq,zar,zas,zat,zau]
  clear hF
  have x19:=zbk xx e19
  have r4_19:=(Qaa q4 e19)
  refine Qai g4 _ (ints .u8 (Qav (outN u (crungs u es 0)))) 23 r4_19 rfl kj (Qag 23 _ _ g4 23 _ _ r4_19 rfl kj kj (isz (n:=32) kj kj) (eqsz (n:=32) kj kj) (ints_one _ _)) fun W20 p20 r4_20=>?_
  have x20:=zbj p20 x19 (qT x2.size l4)
  refine sgN hK21 <| wp_ret ?_
  exact (show bodyPost _ _ _ .ret _ _ from ret1 (.agg (ints .u8 (Qav (outN u (crungs u es 0))))) rfl (QaU g4 23 _ r4_20 kj kj (isz (n:=32) kj kj)) ⟨by rw [hes],x20⟩)
 ·rw [show (((j+1:Nat):Int)-1)=(j:Int) by omega]
  have hS0:=Qjy u es j (by omega)
  have hL:=QgZ u hu es (j+1)
  generalize crungs u es (j+1)=st at hS0 hL q6 q7 q8 q9
  obtain ⟨a,b,c,d⟩:=st
  obtain ⟨ia,ib,ic,id⟩:=hL
  have iu:=hu
  have hbr:=Qg5 es j
  by_cases hb1:Qek es j=1
  ·have hbit:za3 (nth es (j/8)/2^(j%8)) 2=1:=Qkp es j hcb hb1
   rw [show bitB es j=true by simp [bitB,hb1]] at hS0
   obtain ⟨s0,e_s0⟩:∃ s,s=(c+d)%p:=⟨_,rfl⟩
   have is0:isN s0:=e_s0▸QaF _
   have c_s0:∀ W,Calls Tryz.prog 58 #[lnum c,lnum d] W (Ret W (lnum s0)):=by rw [e_s0]; exact (lAdd c d (Qa9 ic) (Qa9 id))
   obtain ⟨s1,e_s1⟩:∃ s,s=(c-d)%p:=⟨_,rfl⟩
   have is1:isN s1:=e_s1▸QaF _
   have c_s1:∀ W,Calls Tryz.prog 59 #[lnum c,lnum d] W (Ret W (lnum s1)):=by rw [e_s1]; exact (lSub c d (Qa9 ic) (QfH id))
   obtain ⟨s2,e_s2⟩:∃ s,s=(a+b)%p:=⟨_,rfl⟩
   have is2:isN s2:=e_s2▸QaF _
   have c_s2:∀ W,Calls Tryz.prog 58 #[lnum a,lnum b] W (Ret W (lnum s2)):=by rw [e_s2]; exact (lAdd a b (Qa9 ia) (Qa9 ib))
   obtain ⟨s3,e_s3⟩:∃ s,s=(a-b)%p:=⟨_,rfl⟩
   have is3:isN s3:=e_s3▸QaF _
   have c_s3:∀ W,Calls Tryz.prog 59 #[lnum a,lnum b] W (Ret W (lnum s3)):=by rw [e_s3]; exact (lSub a b (Qa9 ia) (QfH ib))
   obtain ⟨s4,e_s4⟩:∃ s,s=s0*s0%p:=⟨_,rfl⟩
   have is4:isN s4:=e_s4▸QaF _
   have c_s4:∀ W,Calls Tryz.prog 60 #[lnum s0,lnum s0] W (Ret W (lnum s4)):=by rw [e_s4]; exact (lMul s0 s0 (Qa9 is0) (Qa9 is0))
   obtain ⟨s5,e_s5⟩:∃ s,s=s1*s1%p:=⟨_,rfl⟩
   have is5:isN s5:=e_s5▸QaF _
   have c_s5:∀ W,Calls Tryz.prog 60 #[lnum s1,lnum s1] W (Ret W (lnum s5)):=by rw [e_s5]; exact (lMul s1 s1 (Qa9 is1) (Qa9 is1))
   obtain ⟨s6,e_s6⟩:∃ s,s=(s4-s5)%p:=⟨_,rfl⟩
   have is6:isN s6:=e_s6▸QaF _
   have c_s6:∀ W,Calls Tryz.prog 59 #[lnum s4,lnum s5] W (Ret W (lnum s6)):=by rw [e_s6]; exact (lSub s4 s5 (Qa9 is4) (QfH is5))
   obtain ⟨s7,e_s7⟩:∃ s,s=s3*s0%p:=⟨_,rfl⟩
   have is7:isN s7:=e_s7▸QaF _
   have c_s7:∀ W,Calls Tryz.prog 60 #[lnum s3,lnum s0] W (Ret W (lnum s7)):=by rw [e_s7]; exact (lMul s3 s0 (Qa9 is3) (Qa9 is0))
   obtain ⟨s8,e_s8⟩:∃ s,s=s2*s1%p:=⟨_,rfl⟩
   have is8:isN s8:=e_s8▸QaF _
   have c_s8:∀ W,Calls Tryz.prog 60 #[lnum s2,lnum s1] W (Ret W (lnum s8)):=by rw [e_s8]; exact (lMul s2 s1 (Qa9 is2) (Qa9 is1))
   obtain ⟨s9,e_s9⟩:∃ s,s=(s7+s8)%p:=⟨_,rfl⟩
   have is9:isN s9:=e_s9▸QaF _
   have c_s9:∀ W,Calls Tryz.prog 58 #[lnum s7,lnum s8] W (Ret W (lnum s9)):=by rw [e_s9]; exact (lAdd s7 s8 (Qa9 is7) (Qa9 is8))
   obtain ⟨s10,e_s10⟩:∃ s,s=(s7-s8)%p:=⟨_,rfl⟩
   have is10:isN s10:=e_s10▸QaF _
   have c_s10:∀ W,Calls Tryz.prog 59 #[lnum s7,lnum s8] W (Ret W (lnum s10)):=by rw [e_s10]; exact (lSub s7 s8 (Qa9 is7) (QfH is8))
   obtain ⟨s11,e_s11⟩:∃ s,s=s9*s9%p:=⟨_,rfl⟩
   have is11:isN s11:=e_s11▸QaF _
   have c_s11:∀ W,Calls Tryz.prog 60 #[lnum s9,lnum s9] W (Ret W (lnum s11)):=by rw [e_s11]; exact (lMul s9 s9 (Qa9 is9) (Qa9 is9))
   obtain ⟨s12,e_s12⟩:∃ s,s=s10*s10%p:=⟨_,rfl⟩
   have is12:isN s12:=e_s12▸QaF _
   have c_s12:∀ W,Calls Tryz.prog 60 #[lnum s10,lnum s10] W (Ret W (lnum s12)):=by rw [e_s12]; exact (lMul s10 s10 (Qa9 is10) (Qa9 is10))
   obtain ⟨s13,e_s13⟩:∃ s,s=u*s12%p:=⟨_,rfl⟩
   have is13:isN s13:=e_s13▸QaF _
   have c_s13:∀ W,Calls Tryz.prog 60 #[lnum u,lnum s12] W (Ret W (lnum s13)):=by rw [e_s13]; exact (lMul u s12 (Qa9 iu) (Qa9 is12))
   obtain ⟨s14,e_s14⟩:∃ s,s=s4*s5%p:=⟨_,rfl⟩
   have is14:isN s14:=e_s14▸QaF _
   have c_s14:∀ W,Calls Tryz.prog 60 #[lnum s4,lnum s5] W (Ret W (lnum s14)):=by rw [e_s14]; exact (lMul s4 s5 (Qa9 is4) (Qa9 is5))
   obtain ⟨s15,e_s15⟩:∃ s,s=s6*121665%p:=⟨_,rfl⟩
   have is15:isN s15:=e_s15▸QaF _
   have c_s15:∀ W,Calls Tryz.prog 60 #[lnum 121665,lnum s6] W (Ret W (lnum s15)):=by rw [e_s15]; exact (mulc s6 is6)
   obtain ⟨s16,e_s16⟩:∃ s,s=(s4+s15)%p:=⟨_,rfl⟩
   have is16:isN s16:=e_s16▸QaF _
   have c_s16:∀ W,Calls Tryz.prog 58 #[lnum s4,lnum s15] W (Ret W (lnum s16)):=by rw [e_s16]; exact (lAdd s4 s15 (Qa9 is4) (Qa9 is15))
   obtain ⟨s17,e_s17⟩:∃ s,s=s6*s16%p:=⟨_,rfl⟩
   have is17:isN s17:=e_s17▸QaF _
   have c_s17:∀ W,Calls Tryz.prog 60 #[lnum s6,lnum s16] W (Ret W (lnum s17)):=by rw [e_s17]; exact (lMul s6 s16 (Qa9 is6) (Qa9 is16))
   refine wp_seq_k fun K55 hK55=>sgC fun K56 hK56=>sg 1 kj <| Qac (.bool true) 32 rfl kj (Qam (u:=.bool (decide ((j:Int)≥0))) kj (congrArg Value.bool (decide_eq_true (by omega)))) <| sgN hK56 <| cond_true kj <| wp_skip <| hK55 _ _ <| wp_seq_k fun K57 hK57=>wp_block ?_
   refine sgC fun K58 hK58=>sg 1 kj <| Qac (.int .i64 (((j/8:Nat):Int))) 36 rfl kj (Qam (u:=.int .i64 (zay.wrap (Int.tdiv ((j:Int)) (8)))) kj (congrArg (za4 .i64) (Qes j 8 (by omega)))) <| Qac (.pointer (some ⟨g6,j/8,none⟩)) 37 rfl kj (Qa8 _ _ _ .i64 (j/8) _ 32 5 rfl kj kj kj kj (by omega)) <| Qac (.int .u8 (nth es (j/8))) 38 rfl kj (Qaj 5 _ g6 (j/8) 23 _ (.int .u8 (nth es (j/8))) _ q5 rfl kj (Qay _ _ _ (by omega)) kj) <| sg 1 kj <| Qac (.int .i64 (((j%8:Nat):Int))) 40 rfl kj (Qam (u:=.int .i64 (za3 ((j:Int)) (8))) kj (congrArg (za4 .i64) (QcR j 8))) <| Qac (.int .u64 (((j%8:Nat):Int))) 41 rfl kj (Qam (u:=.int .u64 (za1.wrap (((j%8:Nat):Int)))) kj (congrArg (za4 .u64) (Qlp _ (by omega)))) <| Qac (.int .u8 (nth es (j/8)/2^(j%8))) 42 rfl kj (Qbu .shr _ _ _ _ .u8 .u64 _ _ _ rfl kj kj (QdS _ _ _ _ _ _ (by omega) (shr8 _ _ (by omega)))) <| Qac (.int .u8 (1)) 43 rfl kj (Qam (u:=.int .u8 (za3 ((nth es (j/8)/2^(j%8))) (2))) kj (congrArg (za4 .u8) hbit)) ?_
   refine sg 1 kj <| sgN hK58 <| wp_seq_k fun K59 hK59=>sgB kj <| cond_true kj <| sgC fun K61 hK61=>Qac (.agg (ints .i64 (lims (c)))) 46 rfl kj (Qae 90 _ g12 90 _ _ q8 rfl kj kj (isz (n:=16) kj kj)) <| Qac (.agg (ints .i64 (lims (a)))) 47 rfl kj (Qae 90 _ g8 90 _ _ q6 rfl kj kj (isz (n:=16) kj kj)) <| Qai g8 _ (ints .i64 (lims (c))) 90 q6 rfl kj (Qag 90 _ _ g8 90 _ _ q6 rfl kj kj (isz (n:=16) kj kj) (eqsz (n:=16) kj kj) kj) fun W19 p19 r8_19=>?_
   have x19:=zbj p19 xx b8
   have r12_19:=(zbi p19 q8 n_8_6)
   refine Qai g12 _ (ints .i64 (lims (a))) 90 r12_19 rfl kj (Qag 90 _ _ g12 90 _ _ r12_19 rfl kj kj (isz (n:=16) kj kj) (eqsz (n:=16) kj kj) kj) fun W20 p20 r12_20=>?_
   have x20:=zbj p20 x19 b12
   refine sgN hK61 <| Qao ?_
   have r14_20:=(zbi p20 (zbi p19 q9 n_9_6) n_9_8)
   refine Qac (.agg (ints .i64 (lims (d)))) 48 rfl kj (Qae 90 _ g14 90 _ _ r14_20 rfl kj kj (isz (n:=16) kj kj)) ?_
   have r10_20:=(zbi p20 (zbi p19 q7 n_7_6) n_7_8)
   refine Qac (.agg (ints .i64 (lims (b)))) 49 rfl kj (Qae 90 _ g10 90 _ _ r10_20 rfl kj kj (isz (n:=16) kj kj)) <| Qai g10 _ (ints .i64 (lims (d))) 90 r10_20 rfl kj (Qag 90 _ _ g10 90 _ _ r10_20 rfl kj kj (isz (n:=16) kj kj) (eqsz (n:=16) kj kj) kj) fun W21 p21 r10_21=>?_
   have x21:=zbj p21 x20 b10
   have r14_21:=(zbi p21 r14_20 n_9_7)
   refine Qai g14 _ (ints .i64 (lims (b))) 90 r14_21 rfl kj (Qag 90 _ _ g14 90 _ _ r14_21 rfl kj kj (isz (n:=16) kj kj) (eqsz (n:=16) kj kj) kj) fun W22 p22 r14_22=>?_
   have x22:=zbj p22 x21 b14
   refine Qaz <| hK59 _ _ <| sgC fun K62 hK62=>?_
   have r8_22:=(zbi p22 (zbi p21 (zbi p20 r8_19 n_6_8) n_6_7) n_6_9)
   refine Qac (.agg (ints .i64 (lims (c)))) 50 rfl kj (Qae 90 _ g8 90 _ _ r8_22 rfl kj kj (isz (n:=16) kj kj)) ?_
   have r10_22:=(zbi p22 r10_21 n_7_9)
   refine Qac (.agg (ints .i64 (lims (d)))) 51 rfl kj (Qae 90 _ g10 90 _ _ r10_22 rfl kj kj (isz (n:=16) kj kj)) <| Qas (.agg (ints .i64 (lims (s0)))) 58 #[.agg (ints .i64 (lims (c))),.agg (ints .i64 (lims (d)))] 52 rfl kj kj (c_s0 _) fun W23 e23=>?_
   have x23:=zbk x22 e23
   refine Qbi (ints .i64 (lims (0))) (ints .i64 (lims (s0))) 90 13 16 rfl kj kj rfl (fun _=>kj) rfl (fun _=>kj) (fun _=>kj) kj kj kj kj fun g63 W25 l63 e25 r63_25=>?_
   have b63:=qT x23.size l63
   have x25:=zbk x23 e25
   refine sgN hK62 <| sgC fun K64 hK64=>?_
   have r8_25:=(Qaa (Qaa r8_22 e23) e25)
   refine Qac (.agg (ints .i64 (lims (c)))) 53 rfl kj (Qae 90 _ g8 90 _ _ r8_25 rfl kj kj (isz (n:=16) kj kj)) ?_
   have r10_25:=(Qaa (Qaa r10_22 e23) e25)
   refine Qac (.agg (ints .i64 (lims (d)))) 54 rfl kj (Qae 90 _ g10 90 _ _ r10_25 rfl kj kj (isz (n:=16) kj kj)) <| Qas (.agg (ints .i64 (lims (s1)))) 59 #[.agg (ints .i64 (lims (c))),.agg (ints .i64 (lims (d)))] 55 rfl kj kj (c_s1 _) fun W26 e26=>?_
   have x26:=zbk x25 e26
   refine Qbi (ints .i64 (lims (0))) (ints .i64 (lims (s1))) 90 14 16 rfl kj kj rfl (fun _=>kj) rfl (fun _=>kj) (fun _=>kj) kj kj kj kj fun g65 W28 l65 e28 r65_28=>?_
   have b65:=qT x26.size l65
   have x28:=zbk x26 e28
   refine sgN hK64 <| sgC fun K66 hK66=>?_
   have r12_28:=(Qaa (Qaa (Qaa (Qaa (zbi p22 (zbi p21 r12_20 n_8_7) n_8_9) e23) e25) e26) e28)
   refine Qac (.agg (ints .i64 (lims (a)))) 56 rfl kj (Qae 90 _ g12 90 _ _ r12_28 rfl kj kj (isz (n:=16) kj kj)) ?_
   have r14_28:=(Qaa (Qaa (Qaa (Qaa r14_22 e23) e25) e26) e28)
   refine Qac (.agg (ints .i64 (lims (b)))) 57 rfl kj (Qae 90 _ g14 90 _ _ r14_28 rfl kj kj (isz (n:=16) kj kj)) <| Qas (.agg (ints .i64 (lims (s2)))) 58 #[.agg (ints .i64 (lims (a))),.agg (ints .i64 (lims (b)))] 58 rfl kj kj (c_s2 _) fun W29 e29=>?_
   have x29:=zbk x28 e29
   refine Qbi (ints .i64 (lims (0))) (ints .i64 (lims (s2))) 90 15 16 rfl kj kj rfl (fun _=>kj) rfl (fun _=>kj) (fun _=>kj) kj kj kj kj fun g67 W31 l67 e31 r67_31=>?_
   have b67:=qT x29.size l67
   have x31:=zbk x29 e31
   refine sgN hK66 <| sgC fun K68 hK68=>?_
   have r12_31:=(Qaa (Qaa r12_28 e29) e31)
   refine Qac (.agg (ints .i64 (lims (a)))) 59 rfl kj (Qae 90 _ g12 90 _ _ r12_31 rfl kj kj (isz (n:=16) kj kj)) ?_
   have r14_31:=(Qaa (Qaa r14_28 e29) e31)
   refine Qac (.agg (ints .i64 (lims (b)))) 60 rfl kj (Qae 90 _ g14 90 _ _ r14_31 rfl kj kj (isz (n:=16) kj kj)) <| Qas (.agg (ints .i64 (lims (s3)))) 59 #[.agg (ints .i64 (lims (a))),.agg (ints .i64 (lims (b)))] 61 rfl kj kj (c_s3 _) fun W32 e32=>?_
   have x32:=zbk x31 e32
   refine Qbi (ints .i64 (lims (0))) (ints .i64 (lims (s3))) 90 16 16 rfl kj kj rfl (fun _=>kj) rfl (fun _=>kj) (fun _=>kj) kj kj kj kj fun g69 W34 l69 e34 r69_34=>?_
   have b69:=qT x32.size l69
   have x34:=zbk x32 e34
   refine sgN hK68 <| sgC fun K70 hK70=>?_
   have r63_34:=(Qaa (Qaa (Qaa (Qaa (Qaa (Qaa r63_25 e26) e28) e29) e31) e32) e34)
   refine Qac (.agg (ints .i64 (lims (s0)))) 62 rfl kj (Qae 90 _ g63 90 _ _ r63_34 rfl kj kj (isz (n:=16) kj kj)) <| Qac (.agg (ints .i64 (lims (s0)))) 63 rfl kj (Qae 90 _ g63 90 _ _ r63_34 rfl kj kj (isz (n:=16) kj kj)) <| Qas (.agg (ints .i64 (lims (s4)))) 60 #[.agg (ints .i64 (lims (s0))),.agg (ints .i64 (lims (s0)))] 64 rfl kj kj (c_s4 _) fun W35 e35=>?_
   have x35:=zbk x34 e35
   refine Qbi (ints .i64 (lims (0))) (ints .i64 (lims (s4))) 90 17 16 rfl kj kj rfl (fun _=>kj) rfl (fun _=>kj) (fun _=>kj) kj kj kj kj fun g71 W37 l71 e37 r71_37=>?_
   have b71:=qT x35.size l71
   have x37:=zbk x35 e37
   refine sgN hK70 <| sgC fun K72 hK72=>?_
   have r65_37:=(Qaa (Qaa (Qaa (Qaa (Qaa (Qaa r65_28 e29) e31) e32) e34) e35) e37)
   refine Qac (.agg (ints .i64 (lims (s1)))) 65 rfl kj (Qae 90 _ g65 90 _ _ r65_37 rfl kj kj (isz (n:=16) kj kj)) <| Qac (.agg (ints .i64 (lims (s1)))) 66 rfl kj (Qae 90 _ g65 90 _ _ r65_37 rfl kj kj (isz (n:=16) kj kj)) <| Qas (.agg (ints .i64 (lims (s5)))) 60 #[.agg (ints .i64 (lims (s1))),.agg (ints .i64 (lims (s1)))] 67 rfl kj kj (c_s5 _) fun W38 e38=>?_
   have x38:=zbk x37 e38
   refine Qbi (ints .i64 (lims (0))) (ints .i64 (lims (s5))) 90 18 16 rfl kj kj rfl (fun _=>kj) rfl (fun _=>kj) (fun _=>kj) kj kj kj kj fun g73 W40 l73 e40 r73_40=>?_
   have b73:=qT x38.size l73
   have x40:=zbk x38 e40
   refine sgN hK72 <| sgC fun K74 hK74=>?_
   have r71_40:=(Qaa (Qaa r71_37 e38) e40)
   refine Qac (.agg (ints .i64 (lims (s4)))) 68 rfl kj (Qae 90 _ g71 90 _ _ r71_40 rfl kj kj (isz (n:=16) kj kj)) <| Qac (.agg (ints .i64 (lims (s5)))) 69 rfl kj (Qae 90 _ g73 90 _ _ r73_40 rfl kj kj (isz (n:=16) kj kj)) <| Qas (.agg (ints .i64 (lims (s6)))) 59 #[.agg (ints .i64 (lims (s4))),.agg (ints .i64 (lims (s5)))] 70 rfl kj kj (c_s6 _) fun W41 e41=>?_
   have x41:=zbk x40 e41
   refine Qbi (ints .i64 (lims (0))) (ints .i64 (lims (s6))) 90 19 16 rfl kj kj rfl (fun _=>kj) rfl (fun _=>kj) (fun _=>kj) kj kj kj kj fun g75 W43 l75 e43 r75_43=>?_
   have b75:=qT x41.size l75
   have x43:=zbk x41 e43
   refine sgN hK74 <| sgC fun K76 hK76=>Qac (.agg (ints .i64 (lims (s3)))) 71 rfl kj (Qae 90 _ g69 90 _ _ (Qaa (Qaa (Qaa (Qaa (Qaa (Qaa r69_34 e35) e37) e38) e40) e41) e43) rfl kj kj (isz (n:=16) kj kj)) <| Qac (.agg (ints .i64 (lims (s0)))) 72 rfl kj (Qae 90 _ g63 90 _ _ (Qaa (Qaa (Qaa (Qaa (Qaa (Qaa r63_34 e35) e37) e38) e40) e41) e43) rfl kj kj (isz (n:=16) kj kj)) <| Qas (.agg (ints .i64 (lims (s7)))) 60 #[.agg (ints .i64 (lims (s3))),.agg (ints .i64 (lims (s0)))] 73 rfl kj kj (c_s7 _) fun W44 e44=>?_
   have x44:=zbk x43 e44
   refine Qbi (ints .i64 (lims (0))) (ints .i64 (lims (s7))) 90 20 16 rfl kj kj rfl (fun _=>kj) rfl (fun _=>kj) (fun _=>kj) kj kj kj kj fun g77 W46 l77 e46 r77_46=>?_
   have b77:=qT x44.size l77
   have x46:=zbk x44 e46
   refine sgN hK76 <| sgC fun K78 hK78=>Qac (.agg (ints .i64 (lims (s2)))) 74 rfl kj (Qae 90 _ g67 90 _ _ (Qaa (Qaa (Qaa (Qaa (Qaa (Qaa (Qaa (Qaa (Qaa (Qaa r67_31 e32) e34) e35) e37) e38) e40) e41) e43) e44) e46) rfl kj kj (isz (n:=16) kj kj)) <| Qac (.agg (ints .i64 (lims (s1)))) 75 rfl kj (Qae 90 _ g65 90 _ _ (Qaa (Qaa (Qaa (Qaa (Qaa (Qaa r65_37 e38) e40) e41) e43) e44) e46) rfl kj kj (isz (n:=16) kj kj)) <| Qas (.agg (ints .i64 (lims (s8)))) 60 #[.agg (ints .i64 (lims (s2))),.agg (ints .i64 (lims (s1)))] 76 rfl kj kj (c_s8 _) fun W47 e47=>?_
   have x47:=zbk x46 e47
   refine Qbi (ints .i64 (lims (0))) (ints .i64 (lims (s8))) 90 21 16 rfl kj kj rfl (fun _=>kj) rfl (fun _=>kj) (fun _=>kj) kj kj kj kj fun g79 W49 l79 e49 r79_49=>?_
   have b79:=qT x47.size l79
   have x49:=zbk x47 e49
   refine sgN hK78 <| sgC fun K80 hK80=>?_
   have r77_49:=(Qaa (Qaa r77_46 e47) e49)
   refine Qac (.agg (ints .i64 (lims (s7)))) 77 rfl kj (Qae 90 _ g77 90 _ _ r77_49 rfl kj kj (isz (n:=16) kj kj)) <| Qac (.agg (ints .i64 (lims (s8)))) 78 rfl kj (Qae 90 _ g79 90 _ _ r79_49 rfl kj kj (isz (n:=16) kj kj)) <| Qas (.agg (ints .i64 (lims (s9)))) 58 #[.agg (ints .i64 (lims (s7))),.agg (ints .i64 (lims (s8)))] 79 rfl kj kj (c_s9 _) fun W50 e50=>?_
   have x50:=zbk x49 e50
   refine Qbi (ints .i64 (lims (0))) (ints .i64 (lims (s9))) 90 22 16 rfl kj kj rfl (fun _=>kj) rfl (fun _=>kj) (fun _=>kj) kj kj kj kj fun g81 W52 l81 e52 r81_52=>?_
   have b81:=qT x50.size l81
   have x52:=zbk x50 e52
   refine sgN hK80 <| sgC fun K82 hK82=>Qac (.agg (ints .i64 (lims (s7)))) 80 rfl kj (Qae 90 _ g77 90 _ _ (Qaa (Qaa r77_49 e50) e52) rfl kj kj (isz (n:=16) kj kj)) <| Qac (.agg (ints .i64 (lims (s8)))) 81 rfl kj (Qae 90 _ g79 90 _ _ (Qaa (Qaa r79_49 e50) e52) rfl kj kj (isz (n:=16) kj kj)) <| Qas (.agg (ints .i64 (lims (s10)))) 59 #[.agg (ints .i64 (lims (s7))),.agg (ints .i64 (lims (s8)))] 82 rfl kj kj (c_s10 _) fun W53 e53=>?_
   have x53:=zbk x52 e53
   refine Qbi (ints .i64 (lims (0))) (ints .i64 (lims (s10))) 90 23 16 rfl kj kj rfl (fun _=>kj) rfl (fun _=>kj) (fun _=>kj) kj kj kj kj fun g83 W55 l83 e55 r83_55=>?_
   have b83:=qT x53.size l83
   have x55:=zbk x53 e55
   refine sgN hK82 <| sgC fun K84 hK84=>?_
   have r81_55:=(Qaa (Qaa r81_52 e53) e55)
   refine Qac (.agg (ints .i64 (lims (s9)))) 83 rfl kj (Qae 90 _ g81 90 _ _ r81_55 rfl kj kj (isz (n:=16) kj kj)) <| Qac (.agg (ints .i64 (lims (s9)))) 84 rfl kj (Qae 90 _ g81 90 _ _ r81_55 rfl kj kj (isz (n:=16) kj kj)) <| Qas (.agg (ints .i64 (lims (s11)))) 60 #[.agg (ints .i64 (lims (s9))),.agg (ints .i64 (lims (s9)))] 85 rfl kj kj (c_s11 _) fun W56 e56=>?_
   have x56:=zbk x55 e56
   have r12_35:=(Qaa (Qaa (Qaa r12_31 e32) e34) e35)
   have r12_38:=(Qaa (Qaa r12_35 e37) e38)
   have r12_41:=(Qaa (Qaa r12_38 e40) e41)
   have r12_53:=(Qaa (Qaa (Qaa (Qaa (Qaa (Qaa (Qaa (Qaa r12_41 e43) e44) e46) e47) e49) e50) e52) e53)
   have r12_56:=(Qaa (Qaa r12_53 e55) e56)
   refine Qai g12 _ (ints .i64 (lims (s11))) 90 r12_56 rfl kj (Qag 90 _ _ g12 90 _ _ r12_56 rfl kj kj (isz (n:=16) kj kj) (eqsz (n:=16) kj kj) kj) fun W57 p57 r12_57=>?_
   have x57:=zbj p57 x56 b12
   refine sgN hK84 <| wp_seq_k fun K85 hK85=>QaQ 5 [⟨none,[(3,none)]⟩,⟨none,[(23,none)]⟩,⟨none,[(23,none)]⟩,⟨none,[(87,some 1),(88,some 2)]⟩,⟨none,[(86,some 0),(89,some 3)]⟩] kj kj fun F hF=>?_
   have r3_53:=(Qaa (Qaa (Qaa (Qaa (Qaa (Qaa (Qaa (Qaa (Qaa (Qaa (Qaa (Qaa (Qaa (Qaa (Qaa (Qaa (Qaa (Qaa (Qaa (Qaa (Qaa (zbi p22 (zbi p21 (zbi p20 (zbi p19 q3 n_3_6) n_3_8) n_3_7) n_3_9) e23) e25) e26) e28) e29) e31) e32) e34) e35) e37) e38) e40) e41) e43) e44) e46) e47) e49) e50) e52) e53)
   have r3_57:=(zbi p57 (Qaa (Qaa r3_53 e55) e56) n_3_8)
   refine Qax (.agg (ints .i64 (lims (u)))) kj kj (fun W hR=>(Qae 90 _ g3 90 _ _ (Qaa (Qaa r3_57 (Qah _)) hR) rfl kj kj (isz (n:=16) kj kj))) ?_
   have r83_57:=(zbi p57 (Qaa r83_55 e56) (Qap r12_53 l83))
   refine Qax (.agg (ints .i64 (lims (s10)))) kj kj (fun W hR=>(Qae 90 _ g83 90 _ _ (Qaa (Qaa r83_57 (Qah _)) hR) rfl kj kj (isz (n:=16) kj kj))) <| Qax (.agg (ints .i64 (lims (s10)))) kj kj (fun W hR=>(Qae 90 _ g83 90 _ _ (Qaa (Qaa r83_57 (Qah _)) hR) rfl kj kj (isz (n:=16) kj kj))) <| QaI (.agg (ints .i64 (lims (s12)))) 60 #[.agg (ints .i64 (lims (s10))),.agg (ints .i64 (lims (s10)))] kj kj (fun _=>kj) (fun W hR=>c_s12 W) <| QaI (.agg (ints .i64 (lims (s13)))) 60 #[.agg (ints .i64 (lims (u))),.agg (ints .i64 (lims (s12)))] kj kj (fun _=>kj) (fun W hR=>c_s13 W) <| QaH (hF _ kj fun W58 e58=>?_)
   simp only [ups,up,zbl,zap,zaq,zar,zas,zat,zau]
   clear hF
   have x58:=zbk x57 e58
   have r14_35:=(Qaa (Qaa (Qaa r14_31 e32) e34) e35)
   have r14_38:=(Qaa (Qaa r14_35 e37) e38)
   have r14_41:=(Qaa (Qaa r14_38 e40) e41)
   have r14_58:=(Qaa (zbi p57 (Qaa (Qaa (Qaa (Qaa (Qaa (Qaa (Qaa (Qaa (Qaa (Qaa r14_41 e43) e44) e46) e47) e49) e50) e52) e53) e55) e56) n_9_8) e58)
   refine Qai g14 _ (ints .i64 (lims (s13))) 90 r14_58 rfl kj (Qag 90 _ _ g14 90 _ _ r14_58 rfl kj kj (isz (n:=16) kj kj) (eqsz (n:=16) kj kj) kj) fun W59 p59 r14_59=>?_
   have x59:=zbj p59 x58 b14
   refine sgN hK85 <| sgC fun K86 hK86=>?_
   have r71_59:=(zbi p59 (Qaa (zbi p57 (Qaa (Qaa (Qaa (Qaa (Qaa (Qaa (Qaa (Qaa (Qaa (Qaa (Qaa r71_40 e41) e43) e44) e46) e47) e49) e50) e52) e53) e55) e56) (Qap r12_35 l71)) e58) (Qap r14_35 l71))
   refine Qac (.agg (ints .i64 (lims (s4)))) 91 rfl kj (Qae 90 _ g71 90 _ _ r71_59 rfl kj kj (isz (n:=16) kj kj)) <| Qac (.agg (ints .i64 (lims (s5)))) 92 rfl kj (Qae 90 _ g73 90 _ _ (zbi p59 (Qaa (zbi p57 (Qaa (Qaa (Qaa (Qaa (Qaa (Qaa (Qaa (Qaa (Qaa (Qaa (Qaa r73_40 e41) e43) e44) e46) e47) e49) e50) e52) e53) e55) e56) (Qap r12_38 l73)) e58) (Qap r14_38 l73)) rfl kj kj (isz (n:=16) kj kj)) <| Qas (.agg (ints .i64 (lims (s14)))) 60 #[.agg (ints .i64 (lims (s4))),.agg (ints .i64 (lims (s5)))] 93 rfl kj kj (c_s14 _) fun W60 e60=>?_
   have r8_35:=(Qaa (Qaa (Qaa (Qaa (Qaa (Qaa (Qaa r8_25 e26) e28) e29) e31) e32) e34) e35)
   have r8_41:=(Qaa (Qaa (Qaa (Qaa r8_35 e37) e38) e40) e41)
   have r8_60:=(Qaa (zbi p59 (Qaa (zbi p57 (Qaa (Qaa (Qaa (Qaa (Qaa (Qaa (Qaa (Qaa (Qaa (Qaa r8_41 e43) e44) e46) e47) e49) e50) e52) e53) e55) e56) n_6_8) e58) n_6_9) e60)
   refine Qai g8 _ (ints .i64 (lims (s14))) 90 r8_60 rfl kj (Qag 90 _ _ g8 90 _ _ r8_60 rfl kj kj (isz (n:=16) kj kj) (eqsz (n:=16) kj kj) kj) fun W61 p61 r8_61=>sgN hK86 <| wp_seq_k fun K87 hK87=>QaQ 7 [⟨none,[(19,none)]⟩,⟨none,[(17,none)]⟩,⟨none,[(10,none)]⟩,⟨none,[(19,none)]⟩,⟨none,[(96,some 2),(97,some 3)]⟩,⟨none,[(95,some 1),(98,some 4)]⟩,⟨none,[(94,some 0),(99,some 5)]⟩] kj kj fun F hF=>?_
   have r75_61:=(zbi p61 (Qaa (zbi p59 (Qaa (zbi p57 (Qaa (Qaa (Qaa (Qaa (Qaa (Qaa (Qaa (Qaa (Qaa r75_43 e44) e46) e47) e49) e50) e52) e53) e55) e56) (Qap r12_41 l75)) e58) (Qap r14_41 l75)) e60) (Qap r8_41 l75))
   refine Qax (.agg (ints .i64 (lims (s6)))) kj kj (fun W hR=>(Qae 90 _ g75 90 _ _ (Qaa (Qaa r75_61 (Qah _)) hR) rfl kj kj (isz (n:=16) kj kj))) <| Qax (.agg (ints .i64 (lims (s4)))) kj kj (fun W hR=>(Qae 90 _ g71 90 _ _ (Qaa (Qaa (zbi p61 (Qaa r71_59 e60) (Qap r8_35 l71)) (Qah _)) hR) rfl kj kj (isz (n:=16) kj kj))) ?_
   have r16_61:=(zbi p61 (Qaa (zbi p59 (Qaa (zbi p57 (Qaa (Qaa (Qaa (Qaa (Qaa (Qaa (Qaa (Qaa (Qaa (Qaa (Qaa (Qaa (Qaa (Qaa (Qaa (Qaa (Qaa (Qaa (Qaa (Qaa (Qaa (Qaa (Qaa (zbi p22 (zbi p21 (zbi p20 (zbi p19 q10 n_10_6) n_10_8) n_10_7) n_10_9) e23) e25) e26) e28) e29) e31) e32) e34) e35) e37) e38) e40) e41) e43) e44) e46) e47) e49) e50) e52) e53) e55) e56) n_10_8) e58) n_10_9) e60) n_10_6)
   refine Qax (.agg (ints .i64 (lims (121665)))) kj kj (fun W hR=>(Qae 90 _ g16 90 _ _ (Qaa (Qaa r16_61 (Qah _)) hR) rfl kj kj (isz (n:=16) kj kj))) <| Qax (.agg (ints .i64 (lims (s6)))) kj kj (fun W hR=>(Qae 90 _ g75 90 _ _ (Qaa (Qaa r75_61 (Qah _)) hR) rfl kj kj (isz (n:=16) kj kj))) <| QaI (.agg (ints .i64 (lims (s15)))) 60 #[.agg (ints .i64 (lims (121665))),.agg (ints .i64 (lims (s6)))] kj kj (fun _=>kj) (fun W hR=>c_s15 W) <| QaI (.agg (ints .i64 (lims (s16)))) 58 #[.agg (ints .i64 (lims (s4))),.agg (ints .i64 (lims (s15)))] kj kj (fun _=>kj) (fun W hR=>c_s16 W) <| QaI (.agg (ints .i64 (lims (s17)))) 60 #[.agg (ints .i64 (lims (s6))),.agg (ints .i64 (lims (s16)))] kj kj (fun _=>kj) (fun W hR=>c_s17 W) <| QaH (hF _ kj fun W62 e62=>?_)
   simp only [ups,up,zbl,zap,zaq,zar,zas,zat,zau]
   clear hF
   have r10_62:=(Qaa (zbi p61 (Qaa (zbi p59 (Qaa (zbi p57 (Qaa (Qaa (Qaa (Qaa (Qaa (Qaa (Qaa (Qaa (Qaa (Qaa (Qaa (Qaa (Qaa (Qaa (Qaa (Qaa (Qaa (Qaa (Qaa (Qaa (Qaa r10_25 e26) e28) e29) e31) e32) e34) e35) e37) e38) e40) e41) e43) e44) e46) e47) e49) e50) e52) e53) e55) e56) n_7_8) e58) n_7_9) e60) n_7_6) e62)
   refine Qai g10 _ (ints .i64 (lims (s17))) 90 r10_62 rfl kj (Qag 90 _ _ g10 90 _ _ r10_62 rfl kj kj (isz (n:=16) kj kj) (eqsz (n:=16) kj kj) kj) fun W63 p63 r10_63=>sgN hK87 <| sgB kj <| cond_true kj <| sgC fun K89 hK89=>?_
   have r12_63:=(zbi p63 (Qaa (zbi p61 (Qaa (zbi p59 (Qaa r12_57 e58) n_8_9) e60) n_8_6) e62) n_8_7)
   refine Qac (.agg (ints .i64 (lims (s11)))) 103 rfl kj (Qae 90 _ g12 90 _ _ r12_63 rfl kj kj (isz (n:=16) kj kj)) ?_
   have r8_63:=(zbi p63 (Qaa r8_61 e62) n_6_7)
   refine Qac (.agg (ints .i64 (lims (s14)))) 104 rfl kj (Qae 90 _ g8 90 _ _ r8_63 rfl kj kj (isz (n:=16) kj kj)) <| Qai g8 _ (ints .i64 (lims (s11))) 90 r8_63 rfl kj (Qag 90 _ _ g8 90 _ _ r8_63 rfl kj kj (isz (n:=16) kj kj) (eqsz (n:=16) kj kj) kj) fun W64 p64 r8_64=>?_
   have r12_64:=(zbi p64 r12_63 n_8_6)
   refine Qai g12 _ (ints .i64 (lims (s14))) 90 r12_64 rfl kj (Qag 90 _ _ g12 90 _ _ r12_64 rfl kj kj (isz (n:=16) kj kj) (eqsz (n:=16) kj kj) kj) fun W65 p65 r12_65=>sgN hK89 <| Qao ?_
   have r14_65:=(zbi p65 (zbi p64 (zbi p63 (Qaa (zbi p61 (Qaa r14_59 e60) n_9_6) e62) n_9_7) n_9_6) n_9_8)
   refine Qac (.agg (ints .i64 (lims (s13)))) 105 rfl kj (Qae 90 _ g14 90 _ _ r14_65 rfl kj kj (isz (n:=16) kj kj)) ?_
   have r10_65:=(zbi p65 (zbi p64 r10_63 n_7_6) n_7_8)
   refine Qac (.agg (ints .i64 (lims (s17)))) 106 rfl kj (Qae 90 _ g10 90 _ _ r10_65 rfl kj kj (isz (n:=16) kj kj)) <| Qai g10 _ (ints .i64 (lims (s13))) 90 r10_65 rfl kj (Qag 90 _ _ g10 90 _ _ r10_65 rfl kj kj (isz (n:=16) kj kj) (eqsz (n:=16) kj kj) kj) fun W66 p66 r10_66=>?_
   have r14_66:=(zbi p66 r14_65 n_9_7)
   refine Qai g14 _ (ints .i64 (lims (s17))) 90 r14_66 rfl kj (Qag 90 _ _ g14 90 _ _ r14_66 rfl kj kj (isz (n:=16) kj kj) (eqsz (n:=16) kj kj) kj) fun W67 p67 r14_67=>Qaz <| hK57 _ _ <| Qao <| sg 1 kj <| Qac (.int .i64 ((j:Int)-1)) 34 rfl kj (Qam (u:=.int .i64 (zay.wrap ((j:Int)-1))) kj (congrArg (za4 .i64) (Qkb j (by omega)))) <| sg 1 kj <| Qaz ?_
   have hl:lstep u c d a b=(s14,s17,s11,s13):=by subst_vars; rfl
   have hS:crungs u es j=(s11,s13,s14,s17):=by
    rw [hS0]
    simp only [rung,hl,if_true]
   exact QaL j ⟨kj,kj,kj,kj,kj,kj,kj,kj,kj,kj,trivial⟩ ⟨by omega,(zbi p67 (zbi p66 (zbi p65 (zbi p64 (zbi p63 (Qaa (zbi p61 (Qaa (zbi p59 (Qaa (zbi p57 (Qaa (Qaa (Qaa (Qaa (Qaa (Qaa (Qaa (Qaa (Qaa (Qaa (Qaa (Qaa (Qaa (Qaa (Qaa (Qaa (Qaa (Qaa (Qaa (Qaa (Qaa (Qaa (Qaa (zbi p22 (zbi p21 (zbi p20 (zbi p19 q2 n_2_6) n_2_8) n_2_7) n_2_9) e23) e25) e26) e28) e29) e31) e32) e34) e35) e37) e38) e40) e41) e43) e44) e46) e47) e49) e50) e52) e53) e55) e56) n_2_8) e58) n_2_9) e60) n_2_6) e62) n_2_7) n_2_6) n_2_8) n_2_7) n_2_9),(zbi p67 (zbi p66 (zbi p65 (zbi p64 (zbi p63 (Qaa (zbi p61 (Qaa (zbi p59 (Qaa r3_57 e58) n_3_9) e60) n_3_6) e62) n_3_7) n_3_6) n_3_8) n_3_7) n_3_9),(zbi p67 (zbi p66 (zbi p65 (zbi p64 (zbi p63 (Qaa (zbi p61 (Qaa (zbi p59 (Qaa (zbi p57 (Qaa (Qaa (Qaa (Qaa (Qaa (Qaa (Qaa (Qaa (Qaa (Qaa (Qaa (Qaa (Qaa (Qaa (Qaa (Qaa (Qaa (Qaa (Qaa (Qaa (Qaa (Qaa (Qaa (zbi p22 (zbi p21 (zbi p20 (zbi p19 q4 n_4_6) n_4_8) n_4_7) n_4_9) e23) e25) e26) e28) e29) e31) e32) e34) e35) e37) e38) e40) e41) e43) e44) e46) e47) e49) e50) e52) e53) e55) e56) n_4_8) e58) n_4_9) e60) n_4_6) e62) n_4_7) n_4_6) n_4_8) n_4_7) n_4_9),(zbi p67 (zbi p66 (zbi p65 (zbi p64 (zbi p63 (Qaa (zbi p61 (Qaa (zbi p59 (Qaa (zbi p57 (Qaa (Qaa (Qaa (Qaa (Qaa (Qaa (Qaa (Qaa (Qaa (Qaa (Qaa (Qaa (Qaa (Qaa (Qaa (Qaa (Qaa (Qaa (Qaa (Qaa (Qaa (Qaa (Qaa (zbi p22 (zbi p21 (zbi p20 (zbi p19 q5 n_5_6) n_5_8) n_5_7) n_5_9) e23) e25) e26) e28) e29) e31) e32) e34) e35) e37) e38) e40) e41) e43) e44) e46) e47) e49) e50) e52) e53) e55) e56) n_5_8) e58) n_5_9) e60) n_5_6) e62) n_5_7) n_5_6) n_5_8) n_5_7) n_5_9),by rw [hS]; exact (zbi p67 (zbi p66 (zbi p65 r8_64 n_6_8) n_6_7) n_6_9),by rw [hS]; exact (zbi p67 r10_66 n_7_9),by rw [hS]; exact (zbi p67 (zbi p66 r12_65 n_8_7) n_8_9),by rw [hS]; exact r14_67,(zbi p67 (zbi p66 (zbi p65 (zbi p64 (zbi p63 (Qaa r16_61 e62) n_10_7) n_10_6) n_10_8) n_10_7) n_10_9),(zbj p67 (zbj p66 (zbj p65 (zbj p64 (zbj p63 (zbk (zbj p61 (zbk x59 e60) b8) e62) b10) b8) b12) b10) b14)⟩ (za5 j)
  ·have hbit:za3 (nth es (j/8)/2^(j%8)) 2=0:=Qkp es j hcb (by omega)
   rw [show bitB es j=false by simp [bitB,hb1]] at hS0
   obtain ⟨s0,e_s0⟩:∃ s,s=(a+b)%p:=⟨_,rfl⟩
   have is0:isN s0:=e_s0▸QaF _
   have c_s0:∀ W,Calls Tryz.prog 58 #[lnum a,lnum b] W (Ret W (lnum s0)):=by rw [e_s0]; exact (lAdd a b (Qa9 ia) (Qa9 ib))
   obtain ⟨s1,e_s1⟩:∃ s,s=(a-b)%p:=⟨_,rfl⟩
   have is1:isN s1:=e_s1▸QaF _
   have c_s1:∀ W,Calls Tryz.prog 59 #[lnum a,lnum b] W (Ret W (lnum s1)):=by rw [e_s1]; exact (lSub a b (Qa9 ia) (QfH ib))
   obtain ⟨s2,e_s2⟩:∃ s,s=(c+d)%p:=⟨_,rfl⟩
   have is2:isN s2:=e_s2▸QaF _
   have c_s2:∀ W,Calls Tryz.prog 58 #[lnum c,lnum d] W (Ret W (lnum s2)):=by rw [e_s2]; exact (lAdd c d (Qa9 ic) (Qa9 id))
   obtain ⟨s3,e_s3⟩:∃ s,s=(c-d)%p:=⟨_,rfl⟩
   have is3:isN s3:=e_s3▸QaF _
   have c_s3:∀ W,Calls Tryz.prog 59 #[lnum c,lnum d] W (Ret W (lnum s3)):=by rw [e_s3]; exact (lSub c d (Qa9 ic) (QfH id))
   obtain ⟨s4,e_s4⟩:∃ s,s=s0*s0%p:=⟨_,rfl⟩
   have is4:isN s4:=e_s4▸QaF _
   have c_s4:∀ W,Calls Tryz.prog 60 #[lnum s0,lnum s0] W (Ret W (lnum s4)):=by rw [e_s4]; exact (lMul s0 s0 (Qa9 is0) (Qa9 is0))
   obtain ⟨s5,e_s5⟩:∃ s,s=s1*s1%p:=⟨_,rfl⟩
   have is5:isN s5:=e_s5▸QaF _
   have c_s5:∀ W,Calls Tryz.prog 60 #[lnum s1,lnum s1] W (Ret W (lnum s5)):=by rw [e_s5]; exact (lMul s1 s1 (Qa9 is1) (Qa9 is1))
   obtain ⟨s6,e_s6⟩:∃ s,s=(s4-s5)%p:=⟨_,rfl⟩
   have is6:isN s6:=e_s6▸QaF _
   have c_s6:∀ W,Calls Tryz.prog 59 #[lnum s4,lnum s5] W (Ret W (lnum s6)):=by rw [e_s6]; exact (lSub s4 s5 (Qa9 is4) (QfH is5))
   obtain ⟨s7,e_s7⟩:∃ s,s=s3*s0%p:=⟨_,rfl⟩
   have is7:isN s7:=e_s7▸QaF _
   have c_s7:∀ W,Calls Tryz.prog 60 #[lnum s3,lnum s0] W (Ret W (lnum s7)):=by rw [e_s7]; exact (lMul s3 s0 (Qa9 is3) (Qa9 is0))
   obtain ⟨s8,e_s8⟩:∃ s,s=s2*s1%p:=⟨_,rfl⟩
   have is8:isN s8:=e_s8▸QaF _
   have c_s8:∀ W,Calls Tryz.prog 60 #[lnum s2,lnum s1] W (Ret W (lnum s8)):=by rw [e_s8]; exact (lMul s2 s1 (Qa9 is2) (Qa9 is1))
   obtain ⟨s9,e_s9⟩:∃ s,s=(s7+s8)%p:=⟨_,rfl⟩
   have is9:isN s9:=e_s9▸QaF _
   have c_s9:∀ W,Calls Tryz.prog 58 #[lnum s7,lnum s8] W (Ret W (lnum s9)):=by rw [e_s9]; exact (lAdd s7 s8 (Qa9 is7) (Qa9 is8))
   obtain ⟨s10,e_s10⟩:∃ s,s=(s7-s8)%p:=⟨_,rfl⟩
   have is10:isN s10:=e_s10▸QaF _
   have c_s10:∀ W,Calls Tryz.prog 59 #[lnum s7,lnum s8] W (Ret W (lnum s10)):=by rw [e_s10]; exact (lSub s7 s8 (Qa9 is7) (QfH is8))
   obtain ⟨s11,e_s11⟩:∃ s,s=s9*s9%p:=⟨_,rfl⟩
   have is11:isN s11:=e_s11▸QaF _
   have c_s11:∀ W,Calls Tryz.prog 60 #[lnum s9,lnum s9] W (Ret W (lnum s11)):=by rw [e_s11]; exact (lMul s9 s9 (Qa9 is9) (Qa9 is9))
   obtain ⟨s12,e_s12⟩:∃ s,s=s10*s10%p:=⟨_,rfl⟩
   have is12:isN s12:=e_s12▸QaF _
   have c_s12:∀ W,Calls Tryz.prog 60 #[lnum s10,lnum s10] W (Ret W (lnum s12)):=by rw [e_s12]; exact (lMul s10 s10 (Qa9 is10) (Qa9 is10))
   obtain ⟨s13,e_s13⟩:∃ s,s=u*s12%p:=⟨_,rfl⟩
   have is13:isN s13:=e_s13▸QaF _
   have c_s13:∀ W,Calls Tryz.prog 60 #[lnum u,lnum s12] W (Ret W (lnum s13)):=by rw [e_s13]; exact (lMul u s12 (Qa9 iu) (Qa9 is12))
   obtain ⟨s14,e_s14⟩:∃ s,s=s4*s5%p:=⟨_,rfl⟩
   have is14:isN s14:=e_s14▸QaF _
   have c_s14:∀ W,Calls Tryz.prog 60 #[lnum s4,lnum s5] W (Ret W (lnum s14)):=by rw [e_s14]; exact (lMul s4 s5 (Qa9 is4) (Qa9 is5))
   obtain ⟨s15,e_s15⟩:∃ s,s=s6*121665%p:=⟨_,rfl⟩
   have is15:isN s15:=e_s15▸QaF _
   have c_s15:∀ W,Calls Tryz.prog 60 #[lnum 121665,lnum s6] W (Ret W (lnum s15)):=by rw [e_s15]; exact (mulc s6 is6)
   obtain ⟨s16,e_s16⟩:∃ s,s=(s4+s15)%p:=⟨_,rfl⟩
   have is16:isN s16:=e_s16▸QaF _
   have c_s16:∀ W,Calls Tryz.prog 58 #[lnum s4,lnum s15] W (Ret W (lnum s16)):=by rw [e_s16]; exact (lAdd s4 s15 (Qa9 is4) (Qa9 is15))
   obtain ⟨s17,e_s17⟩:∃ s,s=s6*s16%p:=⟨_,rfl⟩
   have is17:isN s17:=e_s17▸QaF _
   have c_s17:∀ W,Calls Tryz.prog 60 #[lnum s6,lnum s16] W (Ret W (lnum s17)):=by rw [e_s17]; exact (lMul s6 s16 (Qa9 is6) (Qa9 is16))
   refine wp_seq_k fun K22 hK22=>sgC fun K23 hK23=>sg 1 kj <| Qac (.bool true) 32 rfl kj (Qam (u:=.bool (decide ((j:Int)≥0))) kj (congrArg Value.bool (decide_eq_true (by omega)))) <| sgN hK23 <| cond_true kj <| wp_skip <| hK22 _ _ <| wp_seq_k fun K24 hK24=>wp_block ?_
   refine sgC fun K25 hK25=>sg 1 kj <| Qac (.int .i64 (((j/8:Nat):Int))) 36 rfl kj (Qam (u:=.int .i64 (zay.wrap (Int.tdiv ((j:Int)) (8)))) kj (congrArg (za4 .i64) (Qes j 8 (by omega)))) <| Qac (.pointer (some ⟨g6,j/8,none⟩)) 37 rfl kj (Qa8 _ _ _ .i64 (j/8) _ 32 5 rfl kj kj kj kj (by omega)) <| Qac (.int .u8 (nth es (j/8))) 38 rfl kj (Qaj 5 _ g6 (j/8) 23 _ (.int .u8 (nth es (j/8))) _ q5 rfl kj (Qay _ _ _ (by omega)) kj) <| sg 1 kj <| Qac (.int .i64 (((j%8:Nat):Int))) 40 rfl kj (Qam (u:=.int .i64 (za3 ((j:Int)) (8))) kj (congrArg (za4 .i64) (QcR j 8))) <| Qac (.int .u64 (((j%8:Nat):Int))) 41 rfl kj (Qam (u:=.int .u64 (za1.wrap (((j%8:Nat):Int)))) kj (congrArg (za4 .u64) (Qlp _ (by omega)))) <| Qac (.int .u8 (nth es (j/8)/2^(j%8))) 42 rfl kj (Qbu .shr _ _ _ _ .u8 .u64 _ _ _ rfl kj kj (QdS _ _ _ _ _ _ (by omega) (shr8 _ _ (by omega)))) <| Qac (.int .u8 (0)) 43 rfl kj (Qam (u:=.int .u8 (za3 ((nth es (j/8)/2^(j%8))) (2))) kj (congrArg (za4 .u8) hbit)) ?_
   refine sg 1 kj <| sgN hK25 <| wp_seq_k fun K26 hK26=>sgB kj <| cond_false kj <| wp_skip <| hK26 _ _ <| sgC fun K28 hK28=>Qac (.agg (ints .i64 (lims (a)))) 50 rfl kj (Qae 90 _ g8 90 _ _ q6 rfl kj kj (isz (n:=16) kj kj)) <| Qac (.agg (ints .i64 (lims (b)))) 51 rfl kj (Qae 90 _ g10 90 _ _ q7 rfl kj kj (isz (n:=16) kj kj)) ?_
   refine Qas (.agg (ints .i64 (lims (s0)))) 58 #[.agg (ints .i64 (lims (a))),.agg (ints .i64 (lims (b)))] 52 rfl kj kj (c_s0 _) fun W19 e19=>?_
   have x19:=zbk xx e19
   refine Qbi (ints .i64 (lims (0))) (ints .i64 (lims (s0))) 90 13 16 rfl kj kj rfl (fun _=>kj) rfl (fun _=>kj) (fun _=>kj) kj kj kj kj fun g29 W21 l29 e21 r29_21=>?_
   have b29:=qT x19.size l29
   have x21:=zbk x19 e21
   refine sgN hK28 <| sgC fun K30 hK30=>?_
   have r8_19:=(Qaa q6 e19)
   have r8_21:=(Qaa r8_19 e21)
   refine Qac (.agg (ints .i64 (lims (a)))) 53 rfl kj (Qae 90 _ g8 90 _ _ r8_21 rfl kj kj (isz (n:=16) kj kj)) ?_
   have r10_21:=(Qaa (Qaa q7 e19) e21)
   refine Qac (.agg (ints .i64 (lims (b)))) 54 rfl kj (Qae 90 _ g10 90 _ _ r10_21 rfl kj kj (isz (n:=16) kj kj)) <| Qas (.agg (ints .i64 (lims (s1)))) 59 #[.agg (ints .i64 (lims (a))),.agg (ints .i64 (lims (b)))] 55 rfl kj kj (c_s1 _) fun W22 e22=>?_
   have x22:=zbk x21 e22
   refine Qbi (ints .i64 (lims (0))) (ints .i64 (lims (s1))) 90 14 16 rfl kj kj rfl (fun _=>kj) rfl (fun _=>kj) (fun _=>kj) kj kj kj kj fun g31 W24 l31 e24 r31_24=>?_
   have b31:=qT x22.size l31
   refine sgN hK30 <| sgC fun K32 hK32=>?_
   have r12_19:=(Qaa q8 e19)
   have r12_24:=(Qaa (Qaa (Qaa r12_19 e21) e22) e24)
   refine Qac (.agg (ints .i64 (lims (c)))) 56 rfl kj (Qae 90 _ g12 90 _ _ r12_24 rfl kj kj (isz (n:=16) kj kj)) ?_
   have r14_22:=(Qaa (Qaa (Qaa q9 e19) e21) e22)
   have r14_24:=(Qaa r14_22 e24)
   refine Qac (.agg (ints .i64 (lims (d)))) 57 rfl kj (Qae 90 _ g14 90 _ _ r14_24 rfl kj kj (isz (n:=16) kj kj)) <| Qas (.agg (ints .i64 (lims (s2)))) 58 #[.agg (ints .i64 (lims (c))),.agg (ints .i64 (lims (d)))] 58 rfl kj kj (c_s2 _) fun W25 e25=>?_
   have x25:=zbk (zbk x22 e24) e25
   refine Qbi (ints .i64 (lims (0))) (ints .i64 (lims (s2))) 90 15 16 rfl kj kj rfl (fun _=>kj) rfl (fun _=>kj) (fun _=>kj) kj kj kj kj fun g33 W27 l33 e27 r33_27=>?_
   have b33:=qT x25.size l33
   refine sgN hK32 <| sgC fun K34 hK34=>?_
   have r12_27:=(Qaa (Qaa r12_24 e25) e27)
   refine Qac (.agg (ints .i64 (lims (c)))) 59 rfl kj (Qae 90 _ g12 90 _ _ r12_27 rfl kj kj (isz (n:=16) kj kj)) ?_
   have r14_27:=(Qaa (Qaa r14_24 e25) e27)
   refine Qac (.agg (ints .i64 (lims (d)))) 60 rfl kj (Qae 90 _ g14 90 _ _ r14_27 rfl kj kj (isz (n:=16) kj kj)) <| Qas (.agg (ints .i64 (lims (s3)))) 59 #[.agg (ints .i64 (lims (c))),.agg (ints .i64 (lims (d)))] 61 rfl kj kj (c_s3 _) fun W28 e28=>?_
   have x28:=zbk (zbk x25 e27) e28
   refine Qbi (ints .i64 (lims (0))) (ints .i64 (lims (s3))) 90 16 16 rfl kj kj rfl (fun _=>kj) rfl (fun _=>kj) (fun _=>kj) kj kj kj kj fun g35 W30 l35 e30 r35_30=>?_
   have b35:=qT x28.size l35
   refine sgN hK34 <| sgC fun K36 hK36=>?_
   have r29_30:=(Qaa (Qaa (Qaa (Qaa (Qaa (Qaa r29_21 e22) e24) e25) e27) e28) e30)
   refine Qac (.agg (ints .i64 (lims (s0)))) 62 rfl kj (Qae 90 _ g29 90 _ _ r29_30 rfl kj kj (isz (n:=16) kj kj)) <| Qac (.agg (ints .i64 (lims (s0)))) 63 rfl kj (Qae 90 _ g29 90 _ _ r29_30 rfl kj kj (isz (n:=16) kj kj)) <| Qas (.agg (ints .i64 (lims (s4)))) 60 #[.agg (ints .i64 (lims (s0))),.agg (ints .i64 (lims (s0)))] 64 rfl kj kj (c_s4 _) fun W31 e31=>?_
   have x31:=zbk (zbk x28 e30) e31
   refine Qbi (ints .i64 (lims (0))) (ints .i64 (lims (s4))) 90 17 16 rfl kj kj rfl (fun _=>kj) rfl (fun _=>kj) (fun _=>kj) kj kj kj kj fun g37 W33 l37 e33 r37_33=>?_
   have b37:=qT x31.size l37
   refine sgN hK36 <| sgC fun K38 hK38=>?_
   have r31_33:=(Qaa (Qaa (Qaa (Qaa (Qaa (Qaa r31_24 e25) e27) e28) e30) e31) e33)
   refine Qac (.agg (ints .i64 (lims (s1)))) 65 rfl kj (Qae 90 _ g31 90 _ _ r31_33 rfl kj kj (isz (n:=16) kj kj)) <| Qac (.agg (ints .i64 (lims (s1)))) 66 rfl kj (Qae 90 _ g31 90 _ _ r31_33 rfl kj kj (isz (n:=16) kj kj)) <| Qas (.agg (ints .i64 (lims (s5)))) 60 #[.agg (ints .i64 (lims (s1))),.agg (ints .i64 (lims (s1)))] 67 rfl kj kj (c_s5 _) fun W34 e34=>?_
   have x34:=zbk (zbk x31 e33) e34
   refine Qbi (ints .i64 (lims (0))) (ints .i64 (lims (s5))) 90 18 16 rfl kj kj rfl (fun _=>kj) rfl (fun _=>kj) (fun _=>kj) kj kj kj kj fun g39 W36 l39 e36 r39_36=>?_
   have b39:=qT x34.size l39
   refine sgN hK38 <| sgC fun K40 hK40=>?_
   have r37_36:=(Qaa (Qaa r37_33 e34) e36)
   refine Qac (.agg (ints .i64 (lims (s4)))) 68 rfl kj (Qae 90 _ g37 90 _ _ r37_36 rfl kj kj (isz (n:=16) kj kj)) <| Qac (.agg (ints .i64 (lims (s5)))) 69 rfl kj (Qae 90 _ g39 90 _ _ r39_36 rfl kj kj (isz (n:=16) kj kj)) <| Qas (.agg (ints .i64 (lims (s6)))) 59 #[.agg (ints .i64 (lims (s4))),.agg (ints .i64 (lims (s5)))] 70 rfl kj kj (c_s6 _) fun W37 e37=>?_
   have x37:=zbk (zbk x34 e36) e37
   refine Qbi (ints .i64 (lims (0))) (ints .i64 (lims (s6))) 90 19 16 rfl kj kj rfl (fun _=>kj) rfl (fun _=>kj) (fun _=>kj) kj kj kj kj fun g41 W39 l41 e39 r41_39=>?_
   have b41:=qT x37.size l41
   refine sgN hK40 <| sgC fun K42 hK42=>Qac (.agg (ints .i64 (lims (s3)))) 71 rfl kj (Qae 90 _ g35 90 _ _ (Qaa (Qaa (Qaa (Qaa (Qaa (Qaa r35_30 e31) e33) e34) e36) e37) e39) rfl kj kj (isz (n:=16) kj kj)) <| Qac (.agg (ints .i64 (lims (s0)))) 72 rfl kj (Qae 90 _ g29 90 _ _ (Qaa (Qaa (Qaa (Qaa (Qaa (Qaa r29_30 e31) e33) e34) e36) e37) e39) rfl kj kj (isz (n:=16) kj kj)) <| Qas (.agg (ints .i64 (lims (s7)))) 60 #[.agg (ints .i64 (lims (s3))),.agg (ints .i64 (lims (s0)))] 73 rfl kj kj (c_s7 _) fun W40 e40=>?_
   have x40:=zbk (zbk x37 e39) e40
   refine Qbi (ints .i64 (lims (0))) (ints .i64 (lims (s7))) 90 20 16 rfl kj kj rfl (fun _=>kj) rfl (fun _=>kj) (fun _=>kj) kj kj kj kj fun g43 W42 l43 e42 r43_42=>?_
   have b43:=qT x40.size l43
   refine sgN hK42 <| sgC fun K44 hK44=>Qac (.agg (ints .i64 (lims (s2)))) 74 rfl kj (Qae 90 _ g33 90 _ _ (Qaa (Qaa (Qaa (Qaa (Qaa (Qaa (Qaa (Qaa (Qaa (Qaa r33_27 e28) e30) e31) e33) e34) e36) e37) e39) e40) e42) rfl kj kj (isz (n:=16) kj kj)) <| Qac (.agg (ints .i64 (lims (s1)))) 75 rfl kj (Qae 90 _ g31 90 _ _ (Qaa (Qaa (Qaa (Qaa (Qaa (Qaa r31_33 e34) e36) e37) e39) e40) e42) rfl kj kj (isz (n:=16) kj kj)) <| Qas (.agg (ints .i64 (lims (s8)))) 60 #[.agg (ints .i64 (lims (s2))),.agg (ints .i64 (lims (s1)))] 76 rfl kj kj (c_s8 _) fun W43 e43=>?_
   have x43:=zbk (zbk x40 e42) e43
   refine Qbi (ints .i64 (lims (0))) (ints .i64 (lims (s8))) 90 21 16 rfl kj kj rfl (fun _=>kj) rfl (fun _=>kj) (fun _=>kj) kj kj kj kj fun g45 W45 l45 e45 r45_45=>?_
   have b45:=qT x43.size l45
   refine sgN hK44 <| sgC fun K46 hK46=>?_
   have r43_45:=(Qaa (Qaa r43_42 e43) e45)
   refine Qac (.agg (ints .i64 (lims (s7)))) 77 rfl kj (Qae 90 _ g43 90 _ _ r43_45 rfl kj kj (isz (n:=16) kj kj)) <| Qac (.agg (ints .i64 (lims (s8)))) 78 rfl kj (Qae 90 _ g45 90 _ _ r45_45 rfl kj kj (isz (n:=16) kj kj)) <| Qas (.agg (ints .i64 (lims (s9)))) 58 #[.agg (ints .i64 (lims (s7))),.agg (ints .i64 (lims (s8)))] 79 rfl kj kj (c_s9 _) fun W46 e46=>?_
   have x46:=zbk (zbk x43 e45) e46
   refine Qbi (ints .i64 (lims (0))) (ints .i64 (lims (s9))) 90 22 16 rfl kj kj rfl (fun _=>kj) rfl (fun _=>kj) (fun _=>kj) kj kj kj kj fun g47 W48 l47 e48 r47_48=>?_
   have b47:=qT x46.size l47
   refine sgN hK46 <| sgC fun K48 hK48=>Qac (.agg (ints .i64 (lims (s7)))) 80 rfl kj (Qae 90 _ g43 90 _ _ (Qaa (Qaa r43_45 e46) e48) rfl kj kj (isz (n:=16) kj kj)) <| Qac (.agg (ints .i64 (lims (s8)))) 81 rfl kj (Qae 90 _ g45 90 _ _ (Qaa (Qaa r45_45 e46) e48) rfl kj kj (isz (n:=16) kj kj)) <| Qas (.agg (ints .i64 (lims (s10)))) 59 #[.agg (ints .i64 (lims (s7))),.agg (ints .i64 (lims (s8)))] 82 rfl kj kj (c_s10 _) fun W49 e49=>?_
   have x49:=zbk (zbk x46 e48) e49
   refine Qbi (ints .i64 (lims (0))) (ints .i64 (lims (s10))) 90 23 16 rfl kj kj rfl (fun _=>kj) rfl (fun _=>kj) (fun _=>kj) kj kj kj kj fun g49 W51 l49 e51 r49_51=>?_
   have b49:=qT x49.size l49
   refine sgN hK48 <| sgC fun K50 hK50=>?_
   have r47_51:=(Qaa (Qaa r47_48 e49) e51)
   refine Qac (.agg (ints .i64 (lims (s9)))) 83 rfl kj (Qae 90 _ g47 90 _ _ r47_51 rfl kj kj (isz (n:=16) kj kj)) <| Qac (.agg (ints .i64 (lims (s9)))) 84 rfl kj (Qae 90 _ g47 90 _ _ r47_51 rfl kj kj (isz (n:=16) kj kj)) <| Qas (.agg (ints .i64 (lims (s11)))) 60 #[.agg (ints .i64 (lims (s9))),.agg (ints .i64 (lims (s9)))] 85 rfl kj kj (c_s11 _) fun W52 e52=>?_
   have x52:=zbk (zbk x49 e51) e52
   have r12_28:=(Qaa r12_27 e28)
   have r12_31:=(Qaa (Qaa r12_28 e30) e31)
   have r12_34:=(Qaa (Qaa r12_31 e33) e34)
   have r12_37:=(Qaa (Qaa r12_34 e36) e37)
   have r12_52:=(Qaa (Qaa (Qaa (Qaa (Qaa (Qaa (Qaa (Qaa (Qaa (Qaa r12_37 e39) e40) e42) e43) e45) e46) e48) e49) e51) e52)
   refine Qai g12 _ (ints .i64 (lims (s11))) 90 r12_52 rfl kj (Qag 90 _ _ g12 90 _ _ r12_52 rfl kj kj (isz (n:=16) kj kj) (eqsz (n:=16) kj kj) kj) fun W53 p53 r12_53=>?_
   have x53:=zbj p53 x52 b12
   refine sgN hK50 <| wp_seq_k fun K51 hK51=>QaQ 5 [⟨none,[(3,none)]⟩,⟨none,[(23,none)]⟩,⟨none,[(23,none)]⟩,⟨none,[(87,some 1),(88,some 2)]⟩,⟨none,[(86,some 0),(89,some 3)]⟩] kj kj fun F hF=>?_
   have r3_53:=(zbi p53 (Qaa (Qaa (Qaa (Qaa (Qaa (Qaa (Qaa (Qaa (Qaa (Qaa (Qaa (Qaa (Qaa (Qaa (Qaa (Qaa (Qaa (Qaa (Qaa (Qaa (Qaa (Qaa (Qaa q3 e19) e21) e22) e24) e25) e27) e28) e30) e31) e33) e34) e36) e37) e39) e40) e42) e43) e45) e46) e48) e49) e51) e52) n_3_8)
   refine Qax (.agg (ints .i64 (lims (u)))) kj kj (fun W hR=>(Qae 90 _ g3 90 _ _ (Qaa (Qaa r3_53 (Qah _)) hR) rfl kj kj (isz (n:=16) kj kj))) ?_
   have r49_53:=(zbi p53 (Qaa r49_51 e52) (Qap (Qaa (Qaa (Qaa (Qaa (Qaa (Qaa (Qaa (Qaa r12_37 e39) e40) e42) e43) e45) e46) e48) e49) l49))
   refine Qax (.agg (ints .i64 (lims (s10)))) kj kj (fun W hR=>(Qae 90 _ g49 90 _ _ (Qaa (Qaa r49_53 (Qah _)) hR) rfl kj kj (isz (n:=16) kj kj))) <| Qax (.agg (ints .i64 (lims (s10)))) kj kj (fun W hR=>(Qae 90 _ g49 90 _ _ (Qaa (Qaa r49_53 (Qah _)) hR) rfl kj kj (isz (n:=16) kj kj))) <| QaI (.agg (ints .i64 (lims (s12)))) 60 #[.agg (ints .i64 (lims (s10))),.agg (ints .i64 (lims (s10)))] kj kj (fun _=>kj) (fun W hR=>c_s12 W) <| QaI (.agg (ints .i64 (lims (s13)))) 60 #[.agg (ints .i64 (lims (u))),.agg (ints .i64 (lims (s12)))] kj kj (fun _=>kj) (fun W hR=>c_s13 W) <| QaH (hF _ kj fun W54 e54=>?_)
   simp only [ups,up,zbl,zap,zaq,zar,zas,zat,zau]
   clear hF
   have r14_28:=(Qaa r14_27 e28)
   have r14_31:=(Qaa (Qaa r14_28 e30) e31)
   have r14_34:=(Qaa (Qaa r14_31 e33) e34)
   have r14_37:=(Qaa (Qaa r14_34 e36) e37)
   have r14_54:=(Qaa (zbi p53 (Qaa (Qaa (Qaa (Qaa (Qaa (Qaa (Qaa (Qaa (Qaa (Qaa r14_37 e39) e40) e42) e43) e45) e46) e48) e49) e51) e52) n_9_8) e54)
   refine Qai g14 _ (ints .i64 (lims (s13))) 90 r14_54 rfl kj (Qag 90 _ _ g14 90 _ _ r14_54 rfl kj kj (isz (n:=16) kj kj) (eqsz (n:=16) kj kj) kj) fun W55 p55 r14_55=>?_
   have x55:=zbj p55 (zbk x53 e54) b14
   refine sgN hK51 <| sgC fun K52 hK52=>?_
   have r37_55:=(zbi p55 (Qaa (zbi p53 (Qaa (Qaa (Qaa (Qaa (Qaa (Qaa (Qaa (Qaa (Qaa (Qaa (Qaa r37_36 e37) e39) e40) e42) e43) e45) e46) e48) e49) e51) e52) (Qap r12_31 l37)) e54) (Qap r14_31 l37))
   refine Qac (.agg (ints .i64 (lims (s4)))) 91 rfl kj (Qae 90 _ g37 90 _ _ r37_55 rfl kj kj (isz (n:=16) kj kj)) <| Qac (.agg (ints .i64 (lims (s5)))) 92 rfl kj (Qae 90 _ g39 90 _ _ (zbi p55 (Qaa (zbi p53 (Qaa (Qaa (Qaa (Qaa (Qaa (Qaa (Qaa (Qaa (Qaa (Qaa (Qaa r39_36 e37) e39) e40) e42) e43) e45) e46) e48) e49) e51) e52) (Qap r12_34 l39)) e54) (Qap r14_34 l39)) rfl kj kj (isz (n:=16) kj kj)) <| Qas (.agg (ints .i64 (lims (s14)))) 60 #[.agg (ints .i64 (lims (s4))),.agg (ints .i64 (lims (s5)))] 93 rfl kj kj (c_s14 _) fun W56 e56=>?_
   have x56:=zbk x55 e56
   have r8_22:=(Qaa r8_21 e22)
   have r8_25:=(Qaa (Qaa r8_22 e24) e25)
   have r8_31:=(Qaa (Qaa (Qaa (Qaa r8_25 e27) e28) e30) e31)
   have r8_37:=(Qaa (Qaa (Qaa (Qaa r8_31 e33) e34) e36) e37)
   have r8_56:=(Qaa (zbi p55 (Qaa (zbi p53 (Qaa (Qaa (Qaa (Qaa (Qaa (Qaa (Qaa (Qaa (Qaa (Qaa r8_37 e39) e40) e42) e43) e45) e46) e48) e49) e51) e52) n_6_8) e54) n_6_9) e56)
   refine Qai g8 _ (ints .i64 (lims (s14))) 90 r8_56 rfl kj (Qag 90 _ _ g8 90 _ _ r8_56 rfl kj kj (isz (n:=16) kj kj) (eqsz (n:=16) kj kj) kj) fun W57 p57 r8_57=>?_
   have x57:=zbj p57 x56 b8
   refine sgN hK52 <| wp_seq_k fun K53 hK53=>QaQ 7 [⟨none,[(19,none)]⟩,⟨none,[(17,none)]⟩,⟨none,[(10,none)]⟩,⟨none,[(19,none)]⟩,⟨none,[(96,some 2),(97,some 3)]⟩,⟨none,[(95,some 1),(98,some 4)]⟩,⟨none,[(94,some 0),(99,some 5)]⟩] kj kj fun F hF=>?_
   have r41_57:=(zbi p57 (Qaa (zbi p55 (Qaa (zbi p53 (Qaa (Qaa (Qaa (Qaa (Qaa (Qaa (Qaa (Qaa (Qaa r41_39 e40) e42) e43) e45) e46) e48) e49) e51) e52) (Qap r12_37 l41)) e54) (Qap r14_37 l41)) e56) (Qap r8_37 l41))
   refine Qax (.agg (ints .i64 (lims (s6)))) kj kj (fun W hR=>(Qae 90 _ g41 90 _ _ (Qaa (Qaa r41_57 (Qah _)) hR) rfl kj kj (isz (n:=16) kj kj))) <| Qax (.agg (ints .i64 (lims (s4)))) kj kj (fun W hR=>(Qae 90 _ g37 90 _ _ (Qaa (Qaa (zbi p57 (Qaa r37_55 e56) (Qap r8_31 l37)) (Qah _)) hR) rfl kj kj (isz (n:=16) kj kj))) ?_
   have r16_57:=(zbi p57 (Qaa (zbi p55 (Qaa (zbi p53 (Qaa (Qaa (Qaa (Qaa (Qaa (Qaa (Qaa (Qaa (Qaa (Qaa (Qaa (Qaa (Qaa (Qaa (Qaa (Qaa (Qaa (Qaa (Qaa (Qaa (Qaa (Qaa (Qaa q10 e19) e21) e22) e24) e25) e27) e28) e30) e31) e33) e34) e36) e37) e39) e40) e42) e43) e45) e46) e48) e49) e51) e52) n_10_8) e54) n_10_9) e56) n_10_6)
   refine Qax (.agg (ints .i64 (lims (121665)))) kj kj (fun W hR=>(Qae 90 _ g16 90 _ _ (Qaa (Qaa r16_57 (Qah _)) hR) rfl kj kj (isz (n:=16) kj kj))) <| Qax (.agg (ints .i64 (lims (s6)))) kj kj (fun W hR=>(Qae 90 _ g41 90 _ _ (Qaa (Qaa r41_57 (Qah _)) hR) rfl kj kj (isz (n:=16) kj kj))) <| QaI (.agg (ints .i64 (lims (s15)))) 60 #[.agg (ints .i64 (lims (121665))),.agg (ints .i64 (lims (s6)))] kj kj (fun _=>kj) (fun W hR=>c_s15 W) <| QaI (.agg (ints .i64 (lims (s16)))) 58 #[.agg (ints .i64 (lims (s4))),.agg (ints .i64 (lims (s15)))] kj kj (fun _=>kj) (fun W hR=>c_s16 W) <| QaI (.agg (ints .i64 (lims (s17)))) 60 #[.agg (ints .i64 (lims (s6))),.agg (ints .i64 (lims (s16)))] kj kj (fun _=>kj) (fun W hR=>c_s17 W) <| QaH (hF _ kj fun W58 e58=>?_)
   simp only [ups,up,zbl,zap,zaq,zar,zas,zat,zau]
   clear hF
   have x58:=zbk x57 e58
   have r10_22:=(Qaa r10_21 e22)
   have r10_25:=(Qaa (Qaa r10_22 e24) e25)
   have r10_58:=(Qaa (zbi p57 (Qaa (zbi p55 (Qaa (zbi p53 (Qaa (Qaa (Qaa (Qaa (Qaa (Qaa (Qaa (Qaa (Qaa (Qaa (Qaa (Qaa (Qaa (Qaa (Qaa (Qaa (Qaa (Qaa r10_25 e27) e28) e30) e31) e33) e34) e36) e37) e39) e40) e42) e43) e45) e46) e48) e49) e51) e52) n_7_8) e54) n_7_9) e56) n_7_6) e58)
   refine Qai g10 _ (ints .i64 (lims (s17))) 90 r10_58 rfl kj (Qag 90 _ _ g10 90 _ _ r10_58 rfl kj kj (isz (n:=16) kj kj) (eqsz (n:=16) kj kj) kj) fun W59 p59 r10_59=>?_
   have x59:=zbj p59 x58 b10
   refine sgN hK53 <| sgB kj <| cond_false kj <| wp_skip <| hK24 _ _ <| Qao <| sg 1 kj <| Qac (.int .i64 ((j:Int)-1)) 34 rfl kj (Qam (u:=.int .i64 (zay.wrap ((j:Int)-1))) kj (congrArg (za4 .i64) (Qkb j (by omega)))) <| sg 1 kj <| Qaz ?_
   have r4_19:=(Qaa q4 e19)
   have r14_59:=(zbi p59 (Qaa (zbi p57 (Qaa r14_55 e56) n_9_6) e58) n_9_7)
   have hl:lstep u a b c d=(s14,s17,s11,s13):=by subst_vars; rfl
   have hS:crungs u es j=(s14,s17,s11,s13):=by
    rw [hS0]
    simp only [rung,hl,Bool.false_eq_true,if_false]
   exact QaL j ⟨kj,kj,kj,kj,kj,kj,kj,kj,kj,kj,trivial⟩ ⟨by omega,(zbi p59 (Qaa (zbi p57 (Qaa (zbi p55 (Qaa (zbi p53 (Qaa (Qaa (Qaa (Qaa (Qaa (Qaa (Qaa (Qaa (Qaa (Qaa (Qaa (Qaa (Qaa (Qaa (Qaa (Qaa (Qaa (Qaa (Qaa (Qaa (Qaa (Qaa (Qaa q2 e19) e21) e22) e24) e25) e27) e28) e30) e31) e33) e34) e36) e37) e39) e40) e42) e43) e45) e46) e48) e49) e51) e52) n_2_8) e54) n_2_9) e56) n_2_6) e58) n_2_7),(zbi p59 (Qaa (zbi p57 (Qaa (zbi p55 (Qaa r3_53 e54) n_3_9) e56) n_3_6) e58) n_3_7),(zbi p59 (Qaa (zbi p57 (Qaa (zbi p55 (Qaa (zbi p53 (Qaa (Qaa (Qaa (Qaa (Qaa (Qaa (Qaa (Qaa (Qaa (Qaa (Qaa (Qaa (Qaa (Qaa (Qaa (Qaa (Qaa (Qaa (Qaa (Qaa (Qaa (Qaa r4_19 e21) e22) e24) e25) e27) e28) e30) e31) e33) e34) e36) e37) e39) e40) e42) e43) e45) e46) e48) e49) e51) e52) n_4_8) e54) n_4_9) e56) n_4_6) e58) n_4_7),(zbi p59 (Qaa (zbi p57 (Qaa (zbi p55 (Qaa (zbi p53 (Qaa (Qaa (Qaa (Qaa (Qaa (Qaa (Qaa (Qaa (Qaa (Qaa (Qaa (Qaa (Qaa (Qaa (Qaa (Qaa (Qaa (Qaa (Qaa (Qaa (Qaa (Qaa (Qaa q5 e19) e21) e22) e24) e25) e27) e28) e30) e31) e33) e34) e36) e37) e39) e40) e42) e43) e45) e46) e48) e49) e51) e52) n_5_8) e54) n_5_9) e56) n_5_6) e58) n_5_7),by rw [hS]; exact (zbi p59 (Qaa r8_57 e58) n_6_7),by rw [hS]; exact r10_59,by rw [hS]; exact (zbi p59 (Qaa (zbi p57 (Qaa (zbi p55 (Qaa r12_53 e54) n_8_9) e56) n_8_6) e58) n_8_7),by rw [hS]; exact r14_59,(zbi p59 (Qaa r16_57 e58) n_10_7),x59⟩ (za5 j)
end Field
end
section
namespace Field
open Go Go.RowKit
open Rely Auto Ladder
theorem addL (a b:Int):(a%p+b)%p=(a+b)%p:=Int.emod_add_emod ..
theorem addR (a b:Int):(a+b%p)%p=(a+b)%p:=Int.add_emod_emod ..
theorem subL (a b:Int):(a%p-b)%p=(a-b)%p:=Int.emod_sub_emod ..
theorem subR (a b:Int):(a-b%p)%p=(a-b)%p:=Int.sub_emod_emod ..
theorem Qcw (u x z y v:Int):lstep u x z y v=(((x+z)*(x+z)*((x-z)*(x-z)))%p,(((x+z)*(x+z)-(x-z)*(x-z))*((x+z)*(x+z)+((x+z)*(x+z)-(x-z)*(x-z))*121665))%p,
    (((y-v)*(x+z)+(y+v)*(x-z))*((y-v)*(x+z)+(y+v)*(x-z)))%p,(u*(((y-v)*(x+z)-(y+v)*(x-z))*((y-v)*(x+z)-(y+v)*(x-z))))%p):=by
  have e0:=fun a b c:Int=>modL a (b*c)
  simp only [lstep,modL,modR,addL,addR,subL,subR]
theorem Qf1 {a b:Int} (h:a=b):a%p=b%p:=by rw [h]
def Sc (l m:Int) (s t:LSt):Prop:=t.1=l*s.1%p∧t.2.1=l*s.2.1%p∧t.2.2.1=m*s.2.2.1%p∧t.2.2.2=m*s.2.2.2%p
theorem QjY (u l m x z y v:Int):lstep u (l*x%p) (l*z%p) (m*y%p) (m*v%p) =
    ((l*l*(l*l))*(lstep u x z y v).1%p,(l*l*(l*l))*(lstep u x z y v).2.1%p,(l*m*(l*m))*(lstep u x z y v).2.2.1%p,(l*m*(l*m))*(lstep u x z y v).2.2.2%p):=by
  rw [Qcw u x z y v]
  simp only [modR]
  have h:lstep u (l*x%p) (l*z%p) (m*y%p) (m*v%p)=lstep u (l*x) (l*z) (m*y) (m*v):=by
    unfold lstep
    simp only [addL,addR,subL,subR]
  rw [h,Qcw]
  refine Prod.ext ?_ (Prod.ext ?_ (Prod.ext ?_ ?_)) <;> refine Qf1 ?_ <;> grind
theorem QoM {u l m:Int} {s t:LSt} (b:Bool) (h:Sc l m s t):Sc (if b then (m*l*(m*l)) else l*l*(l*l)) (if b then m*m*(m*m) else l*m*(l*m)) (rung u s b) (rung u t b):=by
  obtain ⟨x,z,y,v⟩:=s
  obtain ⟨x',z',y',v'⟩:=t
  obtain ⟨rfl,rfl,rfl,rfl⟩:=h
  cases b
  · simp only [rung,Bool.false_eq_true,if_false,QjY]
    exact ⟨rfl,rfl,rfl,rfl⟩
  · simp only [rung,if_true,QjY]
    exact ⟨rfl,rfl,rfl,rfl⟩
theorem QbC {a b:Int} (ha:a%p≠0) (hb:b%p≠0):a*b%p≠0:=fun h=>by
  have hA:=Qf3 (a%p) (QaF _) ha
  apply hb
  have e:(a%p*invN (a%p)%p)*b%p=invN (a%p)*(a*b%p)%p:=by
    rw [modL,modR,za6,modL,←za6,←za6,za0 a]
  rw [hA,h,za7,za8] at e
  rw [e]
  rfl
theorem QnD {y a b:Int} (ha:y*a%p=1) (hb:y*b%p=1):a%p=b%p:=by
  have e:(y*a%p)*b%p=(y*b%p)*a%p:=by
    rw [modL,modL,za6,za6,za0 a b]
  rw [ha,hb,za7,za7] at e
  exact e.symm
theorem Qoq {l x z:Int} (hl:l%p≠0) (hx:isN x) (hz:isN z):(l*x%p)*invN (l*z%p)%p=x*invN z%p:=by
  by_cases h0:z=0
  · subst h0
    rw [za8,show (0:Int)%p=0 from rfl,QnC,za8,za8]
  · have hz0:z%p≠0:=by rw [zav hz.1 hz.2]; exact h0
    have h1:=Qf3 (l*z%p) (QaF _) (QbC hl hz0)
    have h2:=Qf3 z hz h0
    have h3:=Qf3 (l%p) (QaF _) hl
    have h4:(l*z%p)*(invN (l%p)*invN z)%p=1:=by
      have e:(l*z%p)*(invN (l%p)*invN z)%p=(l%p*invN (l%p)%p)*(z*invN z%p)%p:=by
        rw [modL,modL,modR,za6 (l%p),modL]
        refine Qf1 ?_
        grind
      rw [e,h2,h3]
      rfl
    have h5:=QnD h1 h4
    rw [←modR,h5,modR,modL]
    have e:l*x*(invN (l%p)*invN z)%p=(l%p*invN (l%p)%p)*(x*invN z)%p:=by
      rw [modL,za6 (l%p),modL]
      refine Qf1 ?_
      grind
    rw [e,h3,za7]
theorem Qmq (u : Int):∀ (bs:List Bool) (l m:Int) (s t:LSt),l%p≠0→m%p≠0→Sc l m s t→∃ l' m',l'%p≠0∧m'%p≠0∧Sc l' m' (bs.foldl (rung u) s) (bs.foldl (rung u) t)
  | [],l,m,s,t,hl,hm,h=>⟨l,m,hl,hm,h⟩
  | b::bs,l,m,s,t,hl,hm,h=>by
    refine Qmq u bs _ _ _ _ ?_ ?_ (QoM b h)
    · cases b
      · exact QbC (QbC hl hl) (QbC hl hl)
      · exact QbC (QbC hm hl) (QbC hm hl)
    · cases b
      · exact QbC (QbC hl hm) (QbC hl hm)
      · exact QbC (QbC hm hm) (QbC hm hm)
def Dead (s : LSt):Prop:=s.1=0∧s.2.1=0∧s.2.2.2=0
theorem Qm5 (s : LSt) (b:Bool) (h:Dead s):Dead (rung 0 s b):=by
  obtain ⟨x,z,y,v⟩:=s
  obtain ⟨rfl,rfl,rfl⟩:=h
  cases b
  · simp only [rung,Bool.false_eq_true,if_false,Qcw]
    refine ⟨?_,?_,?_⟩ <;> simp
  · simp only [rung,if_true,Qcw]
    refine ⟨?_,?_,?_⟩ <;> simp
theorem Qgz : ∀ (bs:List Bool) (s:LSt),Dead s→Dead (bs.foldl (rung 0) s)
  | [],_,h=>h
  | b::bs,s,h=>Qgz bs _ (Qm5 s b h)
theorem Qkl {s : LSt} (h:Dead s):s.1*invN s.2.1%p=0:=by rw [h.1,za9]; rfl
theorem QgY (u : Int) (hu:isN u):rung u (1,0,u,1) false=(1,0,4*u*u%p,4*u*1%p):=by
  simp only [rung,Bool.false_eq_true,if_false,Qcw]
  have e1:((1:Int)+0)*(1+0)*((1-0)*(1-0))%p=1:=by decide
  have e2:(((1:Int)+0)*(1+0)-(1-0)*(1-0))*((1+0)*(1+0)+((1+0)*(1+0)-(1-0)*(1-0))*121665)%p=0:=by decide
  rw [e1,e2]
  refine Prod.ext rfl (Prod.ext rfl (Prod.ext ?_ ?_)) <;> refine Qf1 ?_ <;> grind
theorem Qha (xs : List Int) (hx:xs.length=32) (hb:Qaf xs):bitB (clamp xs) 255=false∧bitB (clamp xs) 254=true:=by
  have h31:nth (clamp xs) 31=nth xs 31%64+64:=by unfold clamp; exact Qe9 _ _ _ (by simp [hx])
  have b:=hb.nth 31
  unfold bitB Qek
  rw [h31]
  rw [show (2:Int)^(255%8)=128 from rfl,show (2:Int)^(254%8)=64 from rfl]
  constructor
  · have:(nth xs 31%64+64)/128%2=0:=by omega
    rw [this]; rfl
  · have:(nth xs 31%64+64)/64%2=1:=by omega
    rw [this]; rfl
theorem Qhc (es : List Int):QbA es=bitB es 255::bitB es 254::(QbA es).drop 2:=by
  apply List.ext_getElem?
  intro i
  rcases i with _ | _ | i
  · simp [QbA]
  · simp [QbA]
  · simp [QbA,Nat.add_comm 2]
theorem Qn5 (u : Int) (hu:isN u) (xs:List Int) (hx:xs.length=32) (hb:Qaf xs):QgS u (QbA (clamp xs))=outN u (crungs u (clamp xs) 0):=by
  obtain ⟨h255,h254⟩:=Qha xs hx hb
  have hc:=Qhc (clamp xs)
  rw [h255,h254] at hc
  have hd:((QbA (clamp xs)).drop 1).take (255-0)=true::(QbA (clamp xs)).drop 2:=by
    rw [zaA (by simp [QdR])]
    conv=>lhs; rw [hc]
    rfl
  unfold QgS outN crungs
  rw [hd]
  clear hd
  rw [hc]
  clear hc h255 h254
  generalize (QbA (clamp xs)).drop 2=bs
  show (rungs u (false::true::bs)).1*invN (rungs u (false::true::bs)).2.1%p=(rungs u (true::bs)).1*invN (rungs u (true::bs)).2.1%p
  unfold rungs
  rw [zaB]
  by_cases h0:u=0
  · subst h0
    have d1:Dead ((true::bs).foldl (rung 0) (rung 0 (1,0,0,1) false)):=by
      rw [zaB,QgY 0 ⟨by decide,by decide⟩]
      refine Qgz bs _ ?_
      simp only [rung,if_true,Qcw]
      refine ⟨?_,?_,?_⟩ <;> decide
    have d2:Dead ((true::bs).foldl (rung 0) (1,0,0,1)):=by
      rw [zaB]
      refine Qgz bs _ ?_
      simp only [rung,if_true,Qcw]
      refine ⟨?_,?_,?_⟩ <;> decide
    rw [Qkl d1,Qkl d2]
  · have hu0:u%p≠0:=by rw [zav hu.1 hu.2]; exact h0
    have hs:Sc 1 (4*u) (1,0,u,1) (rung u (1,0,u,1) false):=by
      rw [QgY u hu]
      exact ⟨show (1:Int)=1*1%p by decide,show (0:Int)=1*0%p by decide,rfl,rfl⟩
    obtain ⟨l',m',hl,hm,h⟩:=Qmq u (true::bs) 1 (4*u) _ _ (by decide) (QbC (by decide) hu0) hs
    have hL:=Qep u hu (true::bs)
    unfold rungs at hL
    rw [h.1,h.2.1]
    exact Qoq hl hL.1 hL.2.1
end Field
end
section
namespace Field
open Go Go.RowKit
open Rely Auto Ladder
def PN : Nat:=57896044618658097711785492504343953926634992332820282019728792003956564819949
theorem Qjd : ((PN:Nat):Int)=p:=rfl
def sbN (a b:Nat):Nat:=(a+(PN-b))%PN
def QgR (u x z y v:Nat):Nat×Nat×Nat×Nat :=
  let s0:=(x+z)%PN
  let s1:=sbN x z
  let s2:=(y+v)%PN
  let s3:=sbN y v
  let s4:=s0*s0%PN
  let s5:=s1*s1%PN
  let s6:=sbN s4 s5
  let s7:=s3*s0%PN
  let s8:=s2*s1%PN
  let s9:=(s7+s8)%PN
  let s10:=sbN s7 s8
  let s11:=s4*s5%PN
  let s12:=s6*121665%PN
  let s13:=(s4+s12)%PN
  let s14:=s6*s13%PN
  let s15:=s9*s9%PN
  let s16:=s10*s10%PN
  let s17:=u*s16%PN
  (s11,s14,s15,s17)
def lsN (k : Nat→Nat→Nat→Nat→Nat) (u x z y v:Nat):Nat :=
  let s0:=(x+z)%PN
  let s1:=sbN x z
  let s2:=(y+v)%PN
  let s3:=sbN y v
  let s4:=s0*s0%PN
  let s5:=s1*s1%PN
  let s6:=sbN s4 s5
  let s7:=s3*s0%PN
  let s8:=s2*s1%PN
  let s9:=(s7+s8)%PN
  let s10:=sbN s7 s8
  let s11:=s4*s5%PN
  let s12:=s6*121665%PN
  let s13:=(s4+s12)%PN
  let s14:=s6*s13%PN
  let s15:=s9*s9%PN
  let s16:=s10*s10%PN
  let s17:=u*s16%PN
  bif zaC s11 PN&&zaC s14 PN&&zaC s15 PN&&zaC s17 PN then k s11 s14 s15 s17 else 0
def QdG (e : Nat):Nat→List Bool
  | 0=>[]
  | f+1=>Nat.beq (e/2^f%2) 1::QdG e f
theorem QiX (a b:Nat) (ha:a<PN) (hb:b<PN):((sbN a b:Nat):Int)=((a:Int)-b)%p:=by
  unfold sbN
  rw [←Qjd,zaD,zaE,Int.natCast_sub (Nat.le_of_lt hb),show (a:Int)+((PN:Int)-b)=(a-b)+PN by omega,Int.add_emod_right]
theorem QpC (a b:Nat):(((a+b)%PN:Nat):Int)=((a:Int)+b)%p:=by
  rw [←Qjd,zaD,zaE]
theorem Qpo (a b:Nat):((a*b%PN:Nat):Int)=((a:Int)*b)%p:=by
  rw [←Qjd,zaD,Int.natCast_mul]
theorem mod_lt (a : Nat):a%PN<PN:=Nat.mod_lt _ (by decide)
theorem QlZ (k : Nat→Nat→Nat→Nat→Nat) (u x z y v:Nat) (hx:x<PN) (hz:z<PN) (hy:y<PN) (hv:v<PN) :
    ∃ a b c d:Nat,a<PN∧b<PN∧c<PN∧d<PN∧lsN k u x z y v=k a b c d∧lstep (u:Int) x z y v=((a:Int),(b:Int),(c:Int),(d:Int)):=by
  refine ⟨(QgR u x z y v).1,(QgR u x z y v).2.1,(QgR u x z y v).2.2.1,(QgR u x z y v).2.2.2,mod_lt _,mod_lt _,mod_lt _,mod_lt _,?_,?_⟩
  · have hb:∀ a:Nat,zaC (a%PN) PN=true:=fun a=>by
      rw [Nat.ble_eq]
      exact Nat.le_of_lt (mod_lt _)
    unfold lsN QgR
    simp only [hb,Bool.and_true,_root_.cond_true]
  · unfold lstep QgR
    simp only [QpC,Qpo,QiX _ _ hx hz,QiX _ _ hy hv,QiX _ _ (mod_lt _) (mod_lt _)]
    rfl
end Field
end
section
namespace Field
open Go Go.RowKit
open Rely Auto Ladder
theorem fill_cat (pl : Nat→Option (Nat×Nat)):∀ (ps:List (Nat×Nat×Value×Array Value)) (pre:List (Array Value)) (rest:Array Value) (off:Nat),(cat pre).size=off→okPl pl off ps→tot ps=rest.size →
    Instr.fill pl (cat pre++rest) (ps.map fun x=>(x.1,x.2.2.1))=some (cat (pre++ps.map fun x=>x.2.2.2))
  | [],pre,rest,off,_,_,ht=>by
    have:rest=#[]:=Array.eq_empty_of_size_eq_zero ht.symm
    subst this
    simp [Instr.fill]
  | (i,n,v,p)::r,pre,rest,off,hoff,⟨h1,h2,h3,h4⟩,ht=>by
    subst h2
    have hn:n≤rest.size:=by rw [←ht,tot]; omega
    simp only [List.map_cons,Instr.fill,h1,h3]
    rw [if_neg (by simp; omega)]
    have hz:(v.cells.zipIdx.foldl (fun cs (x:Value×Nat)=>cs.setIfInBounds (off+x.2) x.1) (cat pre++rest))=cat (pre++[v.cells])++rest.extract n rest.size:=by
      have e1:v.cells.zipIdx=(v.cells.toList.zipIdx 0).toArray:=by
        apply Array.ext'
        simp
      rw [e1,List.foldl_toArray',Qet]
      · have e2:rest=rest.extract 0 n++rest.extract n rest.size:=by
          rw [Array.extract_append_extract,Nat.max_eq_right hn]
          simp
        have e3:(cat pre++rest)=cat (pre++([rest.extract 0 n]++[rest.extract n rest.size])):=by
          rw [Qa5]
          congr 1
        rw [zaF,e3]
        have:=Qf8 pre [rest.extract 0 n] [v.cells] [rest.extract n rest.size] off hoff (by show v.cells.size=(rest.extract 0 n).size; simp; omega)
        rw [show (cat [v.cells]).toList=v.cells.toList from rfl] at this
        rw [this,←zaG,Qa5 (pre++[v.cells])]
        rfl
      · rfl
    have key:=fill_cat pl r (pre++[v.cells]) (rest.extract n rest.size) (off+n) (by rw [Qa5]; show (cat pre++v.cells).size=_; simp; omega) h4 (by simp; rw [←ht,tot]; omega)
    rw [←hz] at key
    rw [zaG] at key
    exact key
theorem Qbk {P : Program} {ρ:Operand→Value} {o:Oper} {w:World} (t:TypeId) (parts:Array (Nat×Operand)) (z:Value) (places:Array (Nat×Nat)) (ps:List (Nat×Nat×Value×Array Value))
    (ho:o.op=.build t parts) (hv:(parts.map fun (i,x)=>(i,ρ x)).toList=ps.map fun x=>(x.1,x.2.2.1)) (hp:okPl (fun i=>places[i]?) 0 ps) (ht:tot ps=z.cells.size)
    (hz:(zeroValue t).run P w=.ok z w) (hu:P.underlying t=some (.struct (P.fieldsOf t))) (hm:((P.fieldsOf t).mapM fun f=>do pure (f.offset,←sizeOf f.type):Sem (Array (Nat×Nat))).run P w=.ok places w) :
    (execOp ρ o).run P w=.ok (.value (.agg (cat (ps.map fun x=>x.2.2.2)))) w:=by
  have:=fill_cat (fun i=>places[i]?) ps [] z.cells 0 rfl hp ht
  rw [show cat []++z.cells=z.cells by simp [cat],zat] at this
  rw [←hv] at this
  have hB:(Instr.build t (parts.map fun (i,x)=>(i,ρ x))).run P w=.ok (.agg (cat (ps.map fun x=>x.2.2.2))) w:=by
    unfold Instr.build
    rw [zaH,hz,zaI,zaH,run_underlying hu w,zaI]
    show (Sem.run P _ w)=_
    rw [zaH,hm,zaI]
    simp only [this]
    rfl
  unfold execOp
  simp only [ho,zaH,hB,zaI,Sem.run_pure]
def pubL (xs : List Int):List Int:=Qav (outN 9 (crungs 9 (clamp xs) 0))
def agN (xs ps:List Int):Int:=outN (QfF ps) (crungs (QfF ps) (clamp xs) 0)
theorem QiC (xs : List Int) (hx:xs.length=32) (hb:Qaf xs) (u:Int) (hu:isN u) (w:World):Calls Tryz.prog 70 #[.agg (ints .u8 xs),num u] w (Ret w (num (outN u (crungs u (clamp xs) 0)))):=by
  have:=climb xs hx hb u hu w
  rw [Qn5 u hu xs hx hb] at this
  exact this
theorem Qn1 (n : Int) (h:0≤n∧n<1000000) (w:World):Calls Tryz.prog 40 #[.int .i64 n] w (Ret w (lnum n)):=by
  have:=QgT n (by omega) w
  rw [show n%p=n from zav h.1 (by unfold p; omega)] at this
  exact this
theorem QnP (a : Int) (b:Bool) (ha:isN a) (h0:isN 0) (h:(a==0)=b) (w:World):Calls Tryz.prog 98 #[num a,num 0] w (Ret w (.bool b)):=by
  have:=equal a 0 ha h0 w
  rw [h] at this
  exact this
theorem Qat (xs : List Int):(pubL xs).length=32:=QaE _
theorem zlen : (zaJ 32 (0:Int)).length=32:=by decide
theorem Qh4 : isN 9:=by unfold isN p; decide
theorem run_part_cat {P : Program} {w:World} (t:TypeId) (pre mid post:List (Array Value)) (off n:Nat) (ho:(cat pre).size=off) (hs:(cat mid).size=n) (ha:aggD P t=some true) (hi:(P.info? t).map (·.size)=some n):(Go.part t (cat (pre++(mid++post))) off).run P w=.ok (.agg (cat mid)) w:=by
  unfold aggD at ha
  cases hd:P.underlying t with
  | none=>rw [hd] at ha; cases ha
  | some d =>
    rw [hd] at ha
    have hdd:aggB d=true:=Option.some.inj ha
    have hagg:(isAgg t).run P w=.ok true w:=by
      unfold isAgg
      rw [zaH,run_underlying hd w]
      cases d <;> first | rfl | cases hdd
    have hsz:(sizeOf t).run P w=.ok n w:=by
      cases hq:P.info? t with
      | none=>simp [hq] at hi
      | some i =>
        have:i.size=n:=by simpa [hq] using hi
        simp [sizeOf,typeInfo,hq,this]
    have he:(cat (pre++(mid++post))).extract off (off+n)=cat mid:=by
      rw [Qa5,Qa5]
      subst ho hs
      simp
    unfold Go.part
    simp [hagg,hsz,he]
end Field
end
section
namespace Field
open Go Go.RowKit
open Rely Auto Ladder
set_option maxHeartbeats 1000000 in
theorem public_ (xs : List Int) (hx:xs.length=32) (hb:Qaf xs) (w:World):Calls Tryz.prog 46 #[.agg (ints .u8 (xs))] w (Ret w (.agg (ints .u8 (pubL xs)))):=by
  refine enter 7 [(0,.agg (ints .u8 (xs)))] Tryz.func46 rfl rfl kj rfl <| sgC fun K1 hK1=>Qak (ints .u8 (xs)) 23 1 rfl kj kj fun g2 W1 l2 e1 r2_1=>?_
  have x1:=zbk (zbg w) e1
  have b2:=qT (zbg w).size l2
  refine Qak (ints .u8 (zaJ 32 0)) 23 2 rfl kj kj fun g3 W2 l3 e2 r3_2=>sgN hK1 <| wp_seq_k fun K4 hK4=>QaQ 4 [⟨none,[(1,none)]⟩,⟨none,[]⟩,⟨none,[(3,some 0),(4,some 1)]⟩,⟨none,[(5,some 2)]⟩] kj kj fun F hF=>Qax (.agg (ints .u8 (xs))) kj kj (fun W hR=>(Qae 23 _ g2 23 _ _ (Qaa (Qaa (Qaa r2_1 e2) (Qah _)) hR) rfl kj kj (isz (n:=32) kj (izT hx)))) <| QaI (.agg (numA (9))) 71 #[.int .i64 9] kj kj (fun _=>kj) (fun W hR=>(Qfp 9 (by decide)) W) <| QaI (.agg (numA (outN 9 (crungs 9 (clamp xs) 0)))) 70 #[.agg (ints .u8 (xs)),.agg (numA (9))] kj kj (fun _=>kj) (fun W hR=>(QiC xs hx hb 9 Qh4) W) <| QaI (.agg (ints .u8 (pubL xs))) 72 #[.agg (numA (outN 9 (crungs 9 (clamp xs) 0)))] kj kj (fun _=>kj) (fun W hR=>(bytes _ (QaF _)) W) <| QaH (hF _ kj fun W3 e3=>?_)
  simp only [ups,up,zbl,zap,zaq,zar,zas,zat,zau]
  clear hF
  have r3_3:=(Qaa r3_2 e3)
  refine Qai g3 _ (ints .u8 (pubL xs)) 23 r3_3 rfl kj (Qag 23 _ _ g3 23 _ _ r3_3 rfl kj kj (isz (n:=32) kj (izT (Qat xs))) (eqsz (n:=32) (izT zlen) (izT (Qat xs))) (ints_one _ _)) fun W4 p4 r3_4=>sgN hK4 <| wp_ret ?_
  exact (show bodyPost _ _ _ .ret _ _ from ret1 (.agg (ints .u8 (pubL xs))) rfl (QaU g3 23 _ r3_4 kj kj (isz (n:=32) kj (izT (Qat xs)))) ⟨rfl,(zbj p4 (zbk (zbk x1 e2) e3) (qT x1.size l3))⟩)
set_option maxHeartbeats 1000000 in
theorem refPublic (xs : List Int) (hx:xs.length=32) (hb:Qaf xs) (w:World):Calls Tryz.prog 26 #[.agg (ints .u8 (xs))] w (Ret w (.agg (ints .u8 (pubL xs)))):=by
  refine enter 6 [(0,.agg (ints .u8 (xs)))] Tryz.func26 rfl rfl kj rfl <| sgC fun K1 hK1=>Qak (ints .u8 (xs)) 23 1 rfl kj kj fun g2 W1 l2 e1 r2_1=>?_
  have x1:=zbk (zbg w) e1
  have b2:=qT (zbg w).size l2
  refine Qak (ints .u8 (zaJ 32 0)) 23 2 rfl kj kj fun g3 W2 l3 e2 r3_2=>sgN hK1 <| wp_seq_k fun K4 hK4=>QaQ 3 [⟨none,[(1,none)]⟩,⟨none,[]⟩,⟨none,[(3,some 0),(4,some 1)]⟩] kj kj fun F hF=>Qax (.agg (ints .u8 (xs))) kj kj (fun W hR=>(Qae 23 _ g2 23 _ _ (Qaa (Qaa (Qaa r2_1 e2) (Qah _)) hR) rfl kj kj (isz (n:=32) kj (izT hx)))) <| QaI (.agg (ints .i64 (lims (9)))) 40 #[.int .i64 9] kj kj (fun _=>kj) (fun W hR=>(Qn1 9 (by decide)) W) <| QaI (.agg (ints .u8 (pubL xs))) 39 #[.agg (ints .u8 (xs)),.agg (ints .i64 (lims (9)))] kj kj (fun _=>kj) (fun W hR=>(come xs hx hb 9 Qh4) W) <| QaH (hF _ kj fun W3 e3=>?_)
  simp only [ups,up,zbl,zap,zaq,zar,zas,zat,zau]
  clear hF
  have r3_3:=(Qaa r3_2 e3)
  refine Qai g3 _ (ints .u8 (pubL xs)) 23 r3_3 rfl kj (Qag 23 _ _ g3 23 _ _ r3_3 rfl kj kj (isz (n:=32) kj (izT (Qat xs))) (eqsz (n:=32) (izT zlen) (izT (Qat xs))) (ints_one _ _)) fun W4 p4 r3_4=>sgN hK4 <| wp_ret ?_
  exact (show bodyPost _ _ _ .ret _ _ from ret1 (.agg (ints .u8 (pubL xs))) rfl (QaU g3 23 _ r3_4 kj kj (isz (n:=32) kj (izT (Qat xs)))) ⟨rfl,(zbj p4 (zbk (zbk x1 e2) e3) (qT x1.size l3))⟩)
set_option maxHeartbeats 1000000 in
theorem agree_0 (xs ps:List Int) (hx:xs.length=32) (hb:Qaf xs) (hp:ps.length=32) (hbp:Qaf ps) (h0:(agN xs ps==0)=false) (w:World):Calls Tryz.prog 73 #[.agg (ints .u8 (xs)),.agg (ints .u8 (ps))] w (Ret w (.tuple #[.agg (ints .u8 (Qav (agN xs ps))),.nilIface])):=by
  refine enter 18 [(0,.agg (ints .u8 (xs))),(1,.agg (ints .u8 (ps)))] Tryz.func73 rfl rfl kj rfl <| sgC fun K1 hK1=>Qak (ints .u8 (xs)) 23 2 rfl kj kj fun g2 W1 l2 e1 r2_1=>?_
  have x1:=zbk (zbg w) e1
  have b2:=qT (zbg w).size l2
  refine Qak (ints .u8 (ps)) 23 3 rfl kj kj fun g3 W2 l3 e2 r3_2=>?_
  have x2:=zbk x1 e2
  have b3:=qT x1.size l3
  refine Qak (ints .u8 (zaJ 32 0)) 23 4 rfl kj kj fun g4 W3 l4 e3 r4_3=>?_
  have x3:=zbk x2 e3
  refine sg 1 kj <| sgN hK1 <| wp_seq_k fun K5 hK5=>QbV 5 [⟨none,[(2,none)]⟩,⟨none,[(3,none)]⟩,⟨none,[(8,some 1)]⟩,⟨none,[(7,some 0),(9,some 2)]⟩,⟨none,[]⟩] [4] kj kj kj fun F hF=>Qax (.agg (ints .u8 (xs))) kj kj (fun W hR=>(Qae 23 _ g2 23 _ _ (Qaa (Qaa (Qaa (Qaa r2_1 e2) e3) (Qah _)) hR) rfl kj kj (isz (n:=32) kj (izT hx)))) <| Qax (.agg (ints .u8 (ps))) kj kj (fun W hR=>(Qae 23 _ g3 23 _ _ (Qaa (Qaa (Qaa r3_2 e3) (Qah _)) hR) rfl kj kj (isz (n:=32) kj (izT hp)))) <| QaI (.agg (numA (QfF ps))) 97 #[.agg (ints .u8 (ps))] kj kj (fun _=>kj) (fun W hR=>(Qrr ps hp hbp) W) <| QaI (.agg (numA (agN xs ps))) 70 #[.agg (ints .u8 (xs)),.agg (numA (QfF ps))] kj kj (fun _=>kj) (fun W hR=>(QiC xs hx hb (QfF ps) (QkQ ps)) W) <| Qcy (numA (0)) 126 kj (qR _) kj (fun _=>kj) <| QaH (hF _ kj fun W4 e4=>?_)
  simp only [fins,up,zap,zaq,zar,zas,zat,zau]
  intro g6 l6 r6_4 n6
  clear hF
  refine Qai g6 _ (numA (agN xs ps)) 126 r6_4 rfl kj (Qag 126 _ _ g6 126 _ _ r6_4 rfl kj kj (isz (n:=4) kj kj) (eqsz (n:=4) kj kj) kj) fun W5 p5 r6_5=>sgN hK5 <| wp_seq_k fun K7 hK7=>wp_seq_k fun K8 hK8=>QaQ 3 [⟨none,[(6,none)]⟩,⟨none,[]⟩,⟨none,[(11,some 0),(12,some 1)]⟩] kj kj fun F hF=>Qax (.agg (numA (agN xs ps))) kj kj (fun W hR=>(Qae 126 _ g6 126 _ _ (Qaa (Qaa r6_5 (Qah _)) hR) rfl kj kj (isz (n:=4) kj kj))) <| QaI (.agg (numA (0))) 71 #[.int .i64 0] kj kj (fun _=>kj) (fun W hR=>(Qfp 0 (by decide)) W) <| QaI (.bool false) 98 #[.agg (numA (agN xs ps)),.agg (numA (0))] kj kj (fun _=>kj) (fun W hR=>(QnP _ _ (QaF _) Qj8 h0) W) <| QaH (hF _ kj fun W6 e6=>?_)
  simp only [ups,up,zbl,zap,zaq,zar,zas,zat,zau]
  clear hF
  refine sgN hK8 <| cond_false kj <| wp_skip <| hK7 _ _ <| sgC fun K9 hK9=>Qac (.agg (numA (agN xs ps))) 16 rfl kj (Qae 126 _ g6 126 _ _ (Qaa r6_5 e6) rfl kj kj (isz (n:=4) kj kj)) <| Qas (.agg (ints .u8 (Qav (agN xs ps)))) 72 #[.agg (numA (agN xs ps))] 17 rfl kj kj ((bytes _ (QaF _)) _) fun W7 e7=>?_
  have r4_7:=(Qaa (Qaa (rpn p5 r4_3 e4 l6) e6) e7)
  refine Qai g4 _ (ints .u8 (Qav (agN xs ps))) 23 r4_7 rfl kj (Qag 23 _ _ g4 23 _ _ r4_7 rfl kj kj (isz (n:=32) kj (izT (QaE (agN xs ps)))) (eqsz (n:=32) (izT zlen) (izT (QaE (agN xs ps)))) (ints_one _ _)) fun W8 p8 r4_8=>sg 1 kj <| sgN hK9 <| wp_ret ?_
  exact (show bodyPost _ _ _ .ret _ _ from ret2 (.agg (ints .u8 (Qav (agN xs ps)))) (.nilIface) rfl (QaU g4 23 _ r4_8 kj kj (isz (n:=32) kj (izT (QaE (agN xs ps))))) (Qa4 kj) ⟨rfl,(zbj p8 (zbk (zbk (zbj p5 (zbk x3 e4) (qT x3.size l6)) e6) e7) (qT x2.size l4))⟩)
end Field
end
section
section
namespace Field
set_option maxHeartbeats 4000000
theorem QmF (d x y u v r s:Int):((x*v+y*u)*(1-(d*(x*u*(y*v))))*s+(y*v+x*u)*(1+(d*(x*u*(y*v))))*r)*((1+(d*(u*r*(v*s))))*(1-(d*(u*r*(v*s))))+d*((u*s+v*r)*x*((v*s+u*r)*y)))-((u*s+v*r)*(1-(d*(u*r*(v*s))))*y+(v*s+u*r)*(1+(d*(u*r*(v*s))))*x)*((1+(d*(x*u*(y*v))))*(1-(d*(x*u*(y*v))))+d*((x*v+y*u)*r*((y*v+x*u)*s))) =
    (-d^2*r^2*s*u^4*v^3*x+d^2*r^2*s*u^3*v^4*y+d^2*r*s^2*u^4*v^3*y-d^2*r*s^2*u^3*v^4*x-d*r^3*u^3*v^2*x-d*r^3*u^2*v^3*y-d*r^2*s*u^4*v*x-d*r^2*s*u*v^4*y+d*r*s^2*u^4*v*y+d*r*s^2*u*v^4*x-d*r*u^3*v^2*x-d*r*u^2*v^3*y+d*s^3*u^3*v^2*y+d*s^3*u^2*v^3*x-d*s*u^3*v^2*y-d*s*u^2*v^3*x)*(-(x*x)+y*y-1-d*(x*x*(y*y)))
    + (d^2*r^3*s^2*u^2*v*x^2*y+d^2*r^3*s^2*u*v^2*x*y^2-d^2*r^2*s^3*u^2*v*x*y^2-d^2*r^2*s^3*u*v^2*x^2*y+d*r^3*s^2*u*x^3-d*r^3*s^2*u*x*y^2+d*r^3*s^2*u*x+d*r^3*s^2*v*x^2*y-d*r^3*s^2*v*y^3+d*r^3*s^2*v*y+d*r^2*s^3*u*x^2*y-d*r^2*s^3*u*y^3+d*r^2*s^3*u*y+d*r^2*s^3*v*x^3-d*r^2*s^3*v*x*y^2+d*r^2*s^3*v*x+d*r^2*s*u^2*v*x^3-d*r^2*s*u^2*v*x*y^2+d*r^2*s*u^2*v*x-d*r^2*s*u*v^2*x^2*y+d*r^2*s*u*v^2*y^3-d*r^2*s*u*v^2*y-d*r*s^2*u^2*v*x^2*y+d*r*s^2*u^2*v*y^3-d*r*s^2*u^2*v*y+d*r*s^2*u*v^2*x^3-d*r*s^2*u*v^2*x*y^2+d*r*s^2*u*v^2*x+r^3*u*x^3-r^3*u*x*y^2+r^3*u*x+r^3*v*x^2*y-r^3*v*y^3+r^3*v*y+r^2*s*u*x^2*y-r^2*s*u*y^3+r^2*s*u*y+r^2*s*v*x^3-r^2*s*v*x*y^2+r^2*s*v*x-r*s^2*u*x^3+r*s^2*u*x*y^2-r*s^2*u*x-r*s^2*v*x^2*y+r*s^2*v*y^3-r*s^2*v*y+r*u*x^3-r*u*x*y^2+r*u*x+r*v*x^2*y-r*v*y^3+r*v*y-s^3*u*x^2*y+s^3*u*y^3-s^3*u*y-s^3*v*x^3+s^3*v*x*y^2-s^3*v*x+s*u*x^2*y-s*u*y^3+s*u*y+s*v*x^3-s*v*x*y^2+s*v*x)*(-(u*u)+v*v-1-d*(u*u*(v*v)))
    + (-d*r*u^2*v*x^2*y-d*r*u*v^2*x*y^2+d*s*u^2*v*x*y^2+d*s*u*v^2*x^2*y-r*u^3*x^3+r*u^3*x*y^2-r*u^3*x-r*u^2*v*x^2*y+r*u^2*v*y^3-r*u^2*v*y+r*u*v^2*x^3-r*u*v^2*x*y^2+r*u*v^2*x-r*u*x^3+r*u*x*y^2-r*u*x+r*v^3*x^2*y-r*v^3*y^3+r*v^3*y-r*v*x^2*y+r*v*y^3-r*v*y-s*u^3*x^2*y+s*u^3*y^3-s*u^3*y-s*u^2*v*x^3+s*u^2*v*x*y^2-s*u^2*v*x+s*u*v^2*x^2*y-s*u*v^2*y^3+s*u*v^2*y-s*u*x^2*y+s*u*y^3-s*u*y+s*v^3*x^3-s*v^3*x*y^2+s*v^3*x-s*v*x^3+s*v*x*y^2-s*v*x)*(-(r*r)+s*s-1-d*(r*r*(s*s))):=by grind
theorem QmE (d x y u v r s:Int):((y*v+x*u)*(1+(d*(x*u*(y*v))))*s+(x*v+y*u)*(1-(d*(x*u*(y*v))))*r)*((1+(d*(u*r*(v*s))))*(1-(d*(u*r*(v*s))))-d*((u*s+v*r)*x*((v*s+u*r)*y)))-((v*s+u*r)*(1+(d*(u*r*(v*s))))*y+(u*s+v*r)*(1-(d*(u*r*(v*s))))*x)*((1+(d*(x*u*(y*v))))*(1-(d*(x*u*(y*v))))-d*((x*v+y*u)*r*((y*v+x*u)*s))) =
    (-d^2*r^2*s*u^4*v^3*y+d^2*r^2*s*u^3*v^4*x+d^2*r*s^2*u^4*v^3*x-d^2*r*s^2*u^3*v^4*y-d*r^3*u^3*v^2*y-d*r^3*u^2*v^3*x-d*r^2*s*u^4*v*y-d*r^2*s*u*v^4*x+d*r*s^2*u^4*v*x+d*r*s^2*u*v^4*y-d*r*u^3*v^2*y-d*r*u^2*v^3*x+d*s^3*u^3*v^2*x+d*s^3*u^2*v^3*y-d*s*u^3*v^2*x-d*s*u^2*v^3*y)*(-(x*x)+y*y-1-d*(x*x*(y*y)))
    + (-d^2*r^3*s^2*u^2*v*x*y^2-d^2*r^3*s^2*u*v^2*x^2*y+d^2*r^2*s^3*u^2*v*x^2*y+d^2*r^2*s^3*u*v^2*x*y^2+d*r^3*s^2*u*x^2*y-d*r^3*s^2*u*y^3+d*r^3*s^2*u*y+d*r^3*s^2*v*x^3-d*r^3*s^2*v*x*y^2+d*r^3*s^2*v*x+d*r^2*s^3*u*x^3-d*r^2*s^3*u*x*y^2+d*r^2*s^3*u*x+d*r^2*s^3*v*x^2*y-d*r^2*s^3*v*y^3+d*r^2*s^3*v*y+d*r^2*s*u^2*v*x^2*y-d*r^2*s*u^2*v*y^3+d*r^2*s*u^2*v*y-d*r^2*s*u*v^2*x^3+d*r^2*s*u*v^2*x*y^2-d*r^2*s*u*v^2*x-d*r*s^2*u^2*v*x^3+d*r*s^2*u^2*v*x*y^2-d*r*s^2*u^2*v*x+d*r*s^2*u*v^2*x^2*y-d*r*s^2*u*v^2*y^3+d*r*s^2*u*v^2*y+r^3*u*x^2*y-r^3*u*y^3+r^3*u*y+r^3*v*x^3-r^3*v*x*y^2+r^3*v*x+r^2*s*u*x^3-r^2*s*u*x*y^2+r^2*s*u*x+r^2*s*v*x^2*y-r^2*s*v*y^3+r^2*s*v*y-r*s^2*u*x^2*y+r*s^2*u*y^3-r*s^2*u*y-r*s^2*v*x^3+r*s^2*v*x*y^2-r*s^2*v*x+r*u*x^2*y-r*u*y^3+r*u*y+r*v*x^3-r*v*x*y^2+r*v*x-s^3*u*x^3+s^3*u*x*y^2-s^3*u*x-s^3*v*x^2*y+s^3*v*y^3-s^3*v*y+s*u*x^3-s*u*x*y^2+s*u*x+s*v*x^2*y-s*v*y^3+s*v*y)*(-(u*u)+v*v-1-d*(u*u*(v*v)))
    + (d*r*u^2*v*x*y^2+d*r*u*v^2*x^2*y-d*s*u^2*v*x^2*y-d*s*u*v^2*x*y^2-r*u^3*x^2*y+r*u^3*y^3-r*u^3*y-r*u^2*v*x^3+r*u^2*v*x*y^2-r*u^2*v*x+r*u*v^2*x^2*y-r*u*v^2*y^3+r*u*v^2*y-r*u*x^2*y+r*u*y^3-r*u*y+r*v^3*x^3-r*v^3*x*y^2+r*v^3*x-r*v*x^3+r*v*x*y^2-r*v*x-s*u^3*x^3+s*u^3*x*y^2-s*u^3*x-s*u^2*v*x^2*y+s*u^2*v*y^3-s*u^2*v*y+s*u*v^2*x^3-s*u*v^2*x*y^2+s*u*v^2*x-s*u*x^3+s*u*x*y^2-s*u*x+s*v^3*x^2*y-s*v^3*y^3+s*v^3*y-s*v*x^2*y+s*v*y^3-s*v*y)*(-(r*r)+s*s-1-d*(r*r*(s*s))):=by grind
end Field
end
section
namespace Prime
theorem q11 : IsP 11:=Qa2 11 2 (by decide +kernel)
theorem q23 : IsP 23:=Qa2 23 3 (by decide +kernel)
theorem QoR : IsP 409477:=Qa2 409477 638 (by decide +kernel)
theorem QlE : IsP 14741173:=(cert 14741173 2 [2,2,3,3,409477] (by
  intro q hq
  simp only [zaj,zaK,or_false] at hq
  rcases hq with rfl | rfl | rfl | rfl | rfl
  · exact p2
  · exact p2
  · exact p3
  · exact p3
  · exact QoR
) (by decide +kernel)).1
theorem QlD : IsP 58964693:=(cert 58964693 2 [2,2,14741173] (by
  intro q hq
  simp only [zaj,zaK,or_false] at hq
  rcases hq with rfl | rfl | rfl
  · exact p2
  · exact p2
  · exact QlE
) (by decide +kernel)).1
theorem Qqg : IsP 30703:=Qa2 30703 174 (by decide +kernel)
theorem Qqf : IsP 82163:=Qa2 82163 285 (by decide +kernel)
theorem QoT : IsP 132667:=Qa2 132667 363 (by decide +kernel)
theorem QoS : IsP 137849:=Qa2 137849 370 (by decide +kernel)
theorem Qea : IsP 3044861653679985063343:=(cert 3044861653679985063343 5 [2,3,11,30703,82163,132667,137849] (by
  intro q hq
  simp only [zaj,zaK,or_false] at hq
  rcases hq with rfl | rfl | rfl | rfl | rfl | rfl | rfl
  · exact p2
  · exact p3
  · exact q11
  · exact Qqg
  · exact Qqf
  · exact QoT
  · exact QoS
) (by decide +kernel)).1
theorem QcG : IsP 198211423230930754013084525763697:=(cert 198211423230930754013084525763697 5 [2,2,2,2,3,23,58964693,3044861653679985063343] (by
  intro q hq
  simp only [zaj,zaK,or_false] at hq
  rcases hq with rfl | rfl | rfl | rfl | rfl | rfl | rfl | rfl
  · exact p2
  · exact p2
  · exact p2
  · exact p2
  · exact p3
  · exact q23
  · exact QlD
  · exact Qea
) (by decide +kernel)).1
theorem q269 : IsP 269:=Qa2 269 15 (by decide +kernel)
theorem q73 : IsP 73:=Qa2 73 7 (by decide +kernel)
theorem q307 : IsP 307:=Qa2 307 16 (by decide +kernel)
theorem Qrc : IsP 5879:=Qa2 5879 75 (by decide +kernel)
theorem QkD : IsP 292386187:=(cert 292386187 2 [2,3,3,3,3,307,5879] (by
  intro q hq
  simp only [zaj,zaK,or_false] at hq
  rcases hq with rfl | rfl | rfl | rfl | rfl | rfl | rfl
  · exact p2
  · exact p3
  · exact p3
  · exact p3
  · exact p3
  · exact q307
  · exact Qrc
) (by decide +kernel)).1
theorem Qhs : IsP 213441916511:=(cert 213441916511 13 [2,5,73,292386187] (by
  intro q hq
  simp only [zaj,zaK,or_false] at hq
  rcases hq with rfl | rfl | rfl | rfl
  · exact p2
  · exact p5
  · exact q73
  · exact QkD
) (by decide +kernel)).1
theorem Qre : IsP 1361:=Qa2 1361 35 (by decide +kernel)
theorem Qrd : IsP 2851:=Qa2 2851 52 (by decide +kernel)
theorem q41 : IsP 41:=Qa2 41 5 (by decide +kernel)
theorem q43 : IsP 43:=Qa2 43 5 (by decide +kernel)
theorem QoQ : IsP 531581:=Qa2 531581 728 (by decide +kernel)
theorem Qng : IsP 1224481:=Qa2 1224481 1105 (by decide +kernel)
theorem Qfw : IsP 1257559732178653:=(cert 1257559732178653 2 [2,2,3,7,23,531581,1224481] (by
  intro q hq
  simp only [zaj,zaK,or_false] at hq
  rcases hq with rfl | rfl | rfl | rfl | rfl | rfl | rfl
  · exact p2
  · exact p2
  · exact p3
  · exact p7
  · exact q23
  · exact QoQ
  · exact Qng
) (by decide +kernel)).1
theorem QeJ : IsP 4434155615661930479:=(cert 4434155615661930479 17 [2,41,43,1257559732178653] (by
  intro q hq
  simp only [zaj,zaK,or_false] at hq
  rcases hq with rfl | rfl | rfl | rfl
  · exact p2
  · exact q41
  · exact q43
  · exact Qfw
) (by decide +kernel)).1
theorem Qdk : IsP 172054593956031949258510691:=(cert 172054593956031949258510691 2 [2,5,1361,2851,4434155615661930479] (by
  intro q hq
  simp only [zaj,zaK,or_false] at hq
  rcases hq with rfl | rfl | rfl | rfl | rfl
  · exact p2
  · exact p5
  · exact Qre
  · exact Qrd
  · exact QeJ
) (by decide +kernel)).1
theorem Qci : IsP 19757330305831588566944191468367130476339:=(cert 19757330305831588566944191468367130476339 2 [2,269,213441916511,172054593956031949258510691] (by
  intro q hq
  simp only [zaj,zaK,or_false] at hq
  rcases hq with rfl | rfl | rfl | rfl
  · exact p2
  · exact q269
  · exact Qhs
  · exact Qdk
) (by decide +kernel)).1
theorem Qcg : IsP 276602624281642239937218680557139826668747:=(cert 276602624281642239937218680557139826668747 2 [2,7,19757330305831588566944191468367130476339] (by
  intro q hq
  simp only [zaj,zaK,or_false] at hq
  rcases hq with rfl | rfl | rfl
  · exact p2
  · exact p7
  · exact Qci
) (by decide +kernel)).1
theorem q7237005577332262213973186563042994240857116359379907606001950938285454250989 : IsP 7237005577332262213973186563042994240857116359379907606001950938285454250989:=(cert 7237005577332262213973186563042994240857116359379907606001950938285454250989 2 [2,2,3,11,198211423230930754013084525763697,276602624281642239937218680557139826668747] (by
  intro q hq
  simp only [zaj,zaK,or_false] at hq
  rcases hq with rfl | rfl | rfl | rfl | rfl | rfl
  · exact p2
  · exact p2
  · exact p3
  · exact q11
  · exact QcG
  · exact Qcg
) (by decide +kernel)).1
end Prime
end
section
namespace Field
open Go Go.RowKit
open Rely Auto Ladder
set_option maxHeartbeats 4000000
def dN : Int:=37095705934669439343138083508754565189542113879843219016388785533085940283555
def Qho : Int:=19681161376707505956807079304988542015446066515923890162744021073123829784752
theorem QjF : Qho*Qho%p=p-1:=by decide +kernel
theorem Qc4 {a : Int} (h:isN a):a%p=a:=zav h.1 h.2
theorem Qjm (n : Nat) (h:n<1000000:=by decide):isN (n:Int):=by unfold isN p; omega
theorem Qpv : invN 1=1:=by
  have h:=Qf3 1 (Qjm 1) (by decide)
  rw [za7,Qc4 (QhB 1)] at h
  exact h
theorem Qgt {x : Int} (h:isN x):x*invN 1%p=x:=by rw [Qpv,zaL,Qc4 h]
theorem zc1 {e a c:Int} (ha:a%p=0) (he:e=c*a):e%p=0:=by
  rw [he,Int.mul_emod,ha,za8]; rfl
theorem zc2 {e a b c d:Int} (ha:a%p=0) (hb:b%p=0) (he:e=c*a+d*b):e%p=0:=by
  rw [he,zaM,zc1 ha rfl,zc1 hb rfl]; rfl
theorem zc4 {e a b c d k l m n:Int} (ha:a%p=0) (hb:b%p=0) (hc:c%p=0) (hd:d%p=0) (he:e=k*a+l*b+m*c+n*d):e%p=0:=by
  rw [he,zaM,zaM (k*a+l*b),zc2 ha hb rfl,zc1 hc rfl,zc1 hd rfl]; rfl
theorem QeH {a b:Int} (h:a*b%p=0):a%p=0∨b%p=0:=by
  by_cases ha:a%p=0
  · exact .inl ha
  · by_cases hb:b%p=0
    · exact .inr hb
    · exact absurd h (QbC ha hb)
theorem Qkx {a b:Int} (h:(a-b)%p=0):a%p=b%p:=zaN.2 h
theorem QiV {a b:Int} (h:a%p=b%p):(a-b)%p=0:=zaN.1 h
theorem QoD {a : Int} (h:2*a%p=0):a%p=0:=(QeH h).resolve_left (by decide)
theorem QkT {a : Int} (h:a%p≠0):(a*invN (a%p)-1)%p=0:=by
  have:=Qf3 (a%p) (QaF _) h
  rw [modL] at this
  exact QiV (by rw [this]; rfl)
def hN : Nat:=28948022309329048855892746252171976963317496166410141009864396001978282409974
theorem Qm2 : Prime.pm 57896044618658097711785492504343953926634992332820282019728792003956564819949 256 ((p-dN).toNat) hN=57896044618658097711785492504343953926634992332820282019728792003956564819948:=by decide +kernel
theorem QnU : ((p-dN).toNat:Int)^hN%p=p-1:=by
  have h:=Prime.pm_eq 57896044618658097711785492504343953926634992332820282019728792003956564819949 256 ((p-dN).toNat) hN (by decide)
  rw [Qm2] at h
  have h2:=QfL ((p-dN).toNat) hN 57896044618658097711785492504343953926634992332820282019728792003956564819949
  rw [←h] at h2
  exact h2
theorem Qqy (h : Nat) (e:h=hN):2*h=57896044618658097711785492504343953926634992332820282019728792003956564819949-1:=by rw [e]; decide
theorem QoU (h : Nat) (D a:Int) (hh:2*h=57896044618658097711785492504343953926634992332820282019728792003956564819949-1) (hD:D^h%p=p-1) (b:Int) (ha:a%p≠0)
    (hs:D*(a*a)%p=b*b%p):False:=by
  have ha1:=Qf5 (a%p) (QaF _) ha (2*h) hh
  rw [Qe7] at ha1
  have e:(D*(a*a))^h%p=(b*b)^h%p:=by rw [←Qe7 (D*(a*a)),hs,Qe7]
  have sq:∀ c:Int,(c*c)^h=c^(2*h):=fun c=>by rw [Int.pow_mul,show c^2=c*c from by rw [zaO,zaO,Int.pow_zero,za7]]
  rw [Int.mul_pow,sq,sq,Int.mul_emod,hD,ha1,zaL] at e
  rw [show (p-1)%p=p-1 by decide] at e
  by_cases hb:b%p=0
  · rw [←Qe7 b,hb] at e
    have h0:0<2*h:=by omega
    rw [Int.zero_pow (by omega)] at e
    exact absurd e (by decide)
  · have hb1:=Qf5 (b%p) (QaF _) hb (2*h) hh
    rw [Qe7] at hb1
    rw [hb1] at e
    exact absurd e (by decide)
theorem nonsq {a b:Int} (ha:a%p≠0) (h:(-dN*(a*a)-b*b)%p=0):False:=by
  refine QoU hN ((p-dN).toNat:Int) a (Qqy _ rfl) QnU b ha ?_
  rw [←Qkx h]
  have e:((p-dN).toNat:Int)=p-dN:=by decide +kernel
  rw [e]
  refine zaN.2 ?_
  rw [show (p-dN)*(a*a) - -dN*(a*a)=p*(a*a) by grind]
  exact Int.mul_emod_right ..
def cv (x y:Int):Int:=-(x*x)+y*y-1-dN*(x*x*(y*y))
def onC (x y:Int):Prop:=cv x y%p=0
def eps (x y u v:Int):Int:=dN*(x*u*(y*v))
theorem Qjz (d i s x y u v:Int) (hs:s*s=1):-d*((i*x*y)*(i*u+s*v)*((i*x*y)*(i*u+s*v)))-(i*x+s*(d*(x*u*(y*v)))*y)*(i*x+s*(d*(x*u*(y*v)))*y) =
    (-(x*x)*(d*(i*i)*(u*u)*(y*y)+2*d*i*u*s*v*(y*y)-d*(u*u)*(y*y)+d*(v*v)*(y*y)+1))*(i*i+1) + -1*(-(x*x)+y*y-1-d*(x*x*(y*y)))
      + (d*(x*x)*(y*y))*(-(u*u)+v*v-1-d*(u*u*(v*v)))+(1-y*y)*(d*(x*u*(y*v))*(d*(x*u*(y*v)))-1):=by grind
theorem complete {x y u v:Int} (h1:onC x y) (h2:onC u v):(eps x y u v*eps x y u v-1)%p≠0:=fun he=>by
  have hi:(Qho*Qho+1)%p=0:=by rw [←addL,QjF]; rfl
  have hi0:Qho%p≠0:=fun e=>by
    have:=QjF
    rw [←modL,e,za9] at this
    exact absurd this (by decide)
  have hx:eps x y u v%p≠0:=fun e=>by
    rw [←subL,←modL,e,za9] at he
    exact absurd he (by decide)
  have hx':∀ a b:Int,eps x y u v=a*b→a%p≠0:=fun a b e h=>by
    apply hx; rw [e,←modL,h,za9]; rfl
  have hX:=hx' x (dN*(u*(y*v))) (by unfold eps; grind)
  have hY:=hx' y (dN*(u*(x*v))) (by unfold eps; grind)
  have hU:=hx' u (dN*(x*(y*v))) (by unfold eps; grind)
  have hb:(Qho*x*y)%p≠0:=QbC (QbC hi0 hX) hY
  have key:∀ s:Int,s*s=1→(Qho*u+s*v)%p=0:=fun s hs=>by
    apply Decidable.byContradiction
    intro hne
    exact nonsq (QbC hb hne) (zc4 hi h1 h2 he (Qjz dN Qho s x y u v hs))
  have k1:=key 1 rfl
  have k2:=key (-1) rfl
  have k3:Qho*(2*u)%p=0:=zc2 k1 k2 (c:=1) (d:=1) (by grind)
  exact hU (QoD ((QeH k3).resolve_left hi0))
theorem QgB {x y u v:Int} (h1:onC x y) (h2:onC u v):(1+eps x y u v)%p≠0:=fun h=>complete h1 h2 (zc1 h (c:=eps x y u v-1) (by grind))
theorem Qg0 {x y u v:Int} (h1:onC x y) (h2:onC u v):(1-eps x y u v)%p≠0:=fun h=>complete h1 h2 (zc1 h (c:=-1-eps x y u v) (by grind))
def aX (x y u v:Int):Int:=(x*v+y*u)*invN ((1+eps x y u v)%p)%p
def aY (x y u v:Int):Int:=(y*v+x*u)*invN ((1-eps x y u v)%p)%p
theorem Qm6 (d x y u v:Int):-((x*v+y*u)*(x*v+y*u)*((1-d*(x*u*(y*v)))*(1-d*(x*u*(y*v)))))+(y*v+x*u)*(y*v+x*u)*((1+d*(x*u*(y*v)))*(1+d*(x*u*(y*v))))
      - (1+d*(x*u*(y*v)))*(1+d*(x*u*(y*v)))*((1-d*(x*u*(y*v)))*(1-d*(x*u*(y*v))))-d*((x*v+y*u)*(x*v+y*u)*((y*v+x*u)*(y*v+x*u))) =
    (d^3*u^4*v^4*x^2*y^2-d^2*u^4*v^4*x^2+d^2*u^4*v^4*y^2-d^2*u^4*v^4-2*d*u^4*v^4-d*u^4*v^2*x^2+d*u^4*v^2*y^2+d*u^2*v^4*x^2-d*u^2*v^4*y^2-2*d*u^2*v^2-2*u^4*v^2+u^4+2*u^2*v^4-4*u^2*v^2+v^4)*(-(x*x)+y*y-1-d*(x*x*(y*y)))
      + (d*u^2*v^2*x^4+2*d*u^2*v^2*x^2+d*u^2*v^2*y^4-2*d*u^2*v^2*y^2+d*u^2*v^2+2*u^2*v^2*x^2-2*u^2*v^2*y^2+2*u^2*v^2-u^2*x^2+u^2*y^2-u^2+v^2*x^2-v^2*y^2+v^2+1)*(-(u*u)+v*v-1-d*(u*u*(v*v))):=by grind
theorem Qj0 (d n m a b i j X Y:Int) (hi:(a*i-1)%p=0) (hj:(b*j-1)%p=0) (hX:(X-n*i)%p=0) (hY:(Y-m*j)%p=0)
    (h:(-(n*n*(b*b))+m*m*(a*a)-a*a*(b*b)-d*(n*n*(m*m)))%p=0):(-(X*X)+Y*Y-1-d*(X*X*(Y*Y)))%p=0:=by
  have e1:(-(n*i*(n*i))+m*j*(m*j)-1-d*(n*i*(n*i)*(m*j*(m*j))))%p=0:=by
    refine zc4 h hi hj (d:=0) rfl (k:=i*i*(j*j)) (l:=-((m*m*(j*j))*(a*i+1))+(a*i+1)*(b*j)*(b*j)) (m:=n*n*(i*i)*(b*j+1)+(b*j+1)) (n:=0) ?_
    grind
  refine zc4 e1 hX hY (d:=0) rfl (k:=1) (l:=-(X+n*i)-d*(Y*Y)*(X+n*i)) (m:=(Y+m*j)-d*(n*i*(n*i))*(Y+m*j)) (n:=0) ?_
  grind
theorem closed {x y u v:Int} (h1:onC x y) (h2:onC u v):onC (aX x y u v) (aY x y u v):=by
  unfold onC cv
  refine Qj0 dN (x*v+y*u) (y*v+x*u) (1+eps x y u v) (1-eps x y u v) _ _ _ _ (QkT (QgB h1 h2)) (QkT (Qg0 h1 h2)) (QiV (zaP ..)) (QiV (zaP ..)) ?_
  exact zc2 h1 h2 (Qm6 dN x y u v)
theorem Qnv : onC 0 1:=rfl
theorem QhD (x y u v:Int):eps u v x y=eps x y u v:=by unfold eps; grind
theorem QmL (x y u v:Int):aX u v x y=aX x y u v:=by
  unfold aX; rw [QhD,show u*y+v*x=x*v+y*u by grind]
theorem Qj6 (x y u v:Int):aY u v x y=aY x y u v:=by
  unfold aY; rw [QhD,show v*y+u*x=y*v+x*u by grind]
theorem QmK (x y u v:Int):isN (aX x y u v):=QaF _
theorem QmJ (x y u v:Int):isN (aY x y u v):=QaF _
theorem Qov {D i n X:Int} (hi:(D*i-1)%p=0) (hX:X=n*i%p):(D*X-n)%p=0:=by
  have h1:(X-n*i)%p=0:=QiV (by rw [hX,zaP])
  exact zc2 hi h1 (c:=n) (d:=D) (by grind)
theorem Qd6 {x y u v:Int} (h1:onC x y) (h2:onC u v):((1+eps x y u v)*aX x y u v-(x*v+y*u))%p=0:=Qov (QkT (QgB h1 h2)) rfl
theorem QcK {x y u v:Int} (h1:onC x y) (h2:onC u v):((1-eps x y u v)*aY x y u v-(y*v+x*u))%p=0:=Qov (QkT (Qg0 h1 h2)) rfl
theorem Qoz (d D1 D2 N1 N2 X Y r s Z:Int) (h1:(D1*X-N1)%p=0) (h2:(D2*Y-N2)%p=0) (h3:((1+d*(X*r*(Y*s)))*Z-(X*s+Y*r))%p=0) :
    ((D1*D2+d*(N1*r*(N2*s)))*Z-(N1*D2*s+N2*D1*r))%p=0:=by
  refine zc4 h1 h2 h3 (d:=0) rfl (k:=D2*s-d*r*s*Z*N2) (l:=D1*r-d*r*s*Z*(D1*X)) (m:=D1*D2) (n:=0) ?_
  grind
theorem Qoy (d D1 D2 N1 N2 X Y r s Z:Int) (h1:(D1*X-N1)%p=0) (h2:(D2*Y-N2)%p=0) (h3:((1-d*(X*r*(Y*s)))*Z-(Y*s+X*r))%p=0) :
    ((D1*D2-d*(N1*r*(N2*s)))*Z-(N2*D1*s+N1*D2*r))%p=0:=by
  refine zc4 h1 h2 h3 (d:=0) rfl (k:=D2*r+d*r*s*Z*N2) (l:=D1*s+d*r*s*Z*(D1*X)) (m:=D1*D2) (n:=0) ?_
  grind
theorem Qm8 (d D1 D2 N1 N2 X Y r s:Int) (h1:(D1*X-N1)%p=0) (h2:(D2*Y-N2)%p=0) (hd1:D1%p≠0) (hd2:D2%p≠0) (h3:(1+d*(X*r*(Y*s)))%p≠0) :
    (D1*D2+d*(N1*r*(N2*s)))%p≠0:=fun h=>by
  have e:(D1*D2*(1+d*(X*r*(Y*s))))%p=0:=by
    refine zc4 h h1 h2 (d:=0) rfl (k:=1) (l:=d*r*s*(D2*Y)) (m:=d*r*s*N1) (n:=0) ?_
    grind
  exact QbC (QbC hd1 hd2) h3 e
theorem cross {DL NL DM NM X Y:Int} (h1:(DL*X-NL)%p=0) (h2:(DM*Y-NM)%p=0) (hG:(NL*DM-NM*DL)%p=0) (hd1:DL%p≠0) (hd2:DM%p≠0):X%p=Y%p:=by
  have e:(DL*DM*(X-Y))%p=0:=by
    refine zc4 h1 h2 hG (d:=0) rfl (k:=DM) (l:=-DL) (m:=1) (n:=0) ?_
    grind
  exact Qkx ((QeH e).resolve_left (QbC hd1 hd2))
theorem Qq8 {x y u v r s:Int} (h1:onC x y) (h2:onC u v) (h3:onC r s):aX (aX x y u v) (aY x y u v) r s=aX x y (aX u v r s) (aY u v r s):=by
  rw [←QmL x y (aX u v r s)]
  have a:=Qd6 (closed h1 h2) h3
  have b:=Qd6 (closed h2 h3) h1
  have cl:=Qoz dN _ _ _ _ _ _ r s _ (Qd6 h1 h2) (QcK h1 h2) a
  have cm:=Qoz dN _ _ _ _ _ _ x y _ (Qd6 h2 h3) (QcK h2 h3) b
  have dl:=Qm8 dN _ _ _ _ _ _ r s (Qd6 h1 h2) (QcK h1 h2) (QgB h1 h2) (Qg0 h1 h2) (QgB (closed h1 h2) h3)
  have dm:=Qm8 dN _ _ _ _ _ _ x y (Qd6 h2 h3) (QcK h2 h3) (QgB h2 h3) (Qg0 h2 h3) (QgB (closed h2 h3) h1)
  have:=cross cl cm (zc4 h1 h2 h3 (d:=0) rfl (n:=0) ((QmF dN x y u v r s).trans (by rw [za8,zaQ]; rfl))) dl dm
  rwa [Qc4 (QmK ..),Qc4 (QmK ..)] at this
theorem Qm7 (d D1 D2 N1 N2 X Y r s:Int) (h1:(D1*X-N1)%p=0) (h2:(D2*Y-N2)%p=0) (hd1:D1%p≠0) (hd2:D2%p≠0) (h3:(1-d*(X*r*(Y*s)))%p≠0) :
    (D1*D2-d*(N1*r*(N2*s)))%p≠0:=fun h=>by
  refine Qm8 (-d) D1 D2 N1 N2 X Y r s h1 h2 hd1 hd2 (fun h'=>h3 ?_) ?_
  · rw [←h']; exact Qf1 (by grind)
  · rw [←h]; exact Qf1 (by grind)
theorem Qq7 {x y u v r s:Int} (h1:onC x y) (h2:onC u v) (h3:onC r s):aY (aX x y u v) (aY x y u v) r s=aY x y (aX u v r s) (aY u v r s):=by
  rw [←Qj6 x y (aX u v r s)]
  have a:=QcK (closed h1 h2) h3
  have b:=QcK (closed h2 h3) h1
  have cl:=Qoy dN _ _ _ _ _ _ r s _ (Qd6 h1 h2) (QcK h1 h2) a
  have cm:=Qoy dN _ _ _ _ _ _ x y _ (Qd6 h2 h3) (QcK h2 h3) b
  have dl:=Qm7 dN _ _ _ _ _ _ r s (Qd6 h1 h2) (QcK h1 h2) (QgB h1 h2) (Qg0 h1 h2) (Qg0 (closed h1 h2) h3)
  have dm:=Qm7 dN _ _ _ _ _ _ x y (Qd6 h2 h3) (QcK h2 h3) (QgB h2 h3) (Qg0 h2 h3) (Qg0 (closed h2 h3) h1)
  have:=cross cl cm (zc4 h1 h2 h3 (d:=0) rfl (n:=0) ((QmE dN x y u v r s).trans (by rw [za8,zaQ]; rfl))) dl dm
  rwa [Qc4 (QmJ ..),Qc4 (QmJ ..)] at this
structure OnP (P : Int × Int) : Prop where
  x:isN P.1
  y:isN P.2
  c:onC P.1 P.2
def pAdd (P Q:Int×Int):Int×Int:=(aX P.1 P.2 Q.1 Q.2,aY P.1 P.2 Q.1 Q.2)
def pNeg (P : Int×Int):Int×Int:=((0-P.1)%p,P.2)
def Qec : Int×Int:=(0,1)
theorem Qhx : OnP Qec:=⟨Qjm 0,Qjm 1,Qnv⟩
theorem QoY {P Q:Int×Int} (h:OnP P) (k:OnP Q):OnP (pAdd P Q):=⟨QaF _,QaF _,closed h.c k.c⟩
theorem Qgq (P Q:Int×Int):pAdd P Q=pAdd Q P:=Prod.ext (QmL ..) (Qj6 ..)
theorem QgO {P Q R:Int×Int} (h:OnP P) (k:OnP Q) (l:OnP R):pAdd (pAdd P Q) R=pAdd P (pAdd Q R):=Prod.ext (Qq8 h.c k.c l.c) (Qq7 h.c k.c l.c)
theorem QdM {P : Int×Int} (h:OnP P):pAdd P Qec=P:=by
  have e:eps P.1 P.2 0 1=0:=by unfold eps; grind
  refine Prod.ext ?_ ?_
  · show (P.1*1+P.2*0)*invN ((1+eps P.1 P.2 0 1)%p)%p=P.1
    rw [e,show (1+0:Int)%p=1 from rfl,za8,zaQ,zaL,Qgt h.x]
  · show (P.2*1+P.1*0)*invN ((1-eps P.1 P.2 0 1)%p)%p=P.2
    rw [e,show (1-0:Int)%p=1 from rfl,za8,zaQ,zaL,Qgt h.y]
theorem Qjf {P : Int×Int} (h:OnP P):OnP (pNeg P):=by
  refine ⟨QaF _,h.y,?_⟩
  have e:((0-P.1)%p-(0-P.1))%p=0:=by rw [subL,zaR]; rfl
  refine zc2 h.c e (c:=1) (d:=-((0-P.1)%p+(0-P.1))-dN*(P.2*P.2)*((0-P.1)%p+(0-P.1))) ?_
  show cv ((0-P.1)%p) P.2=_
  unfold cv
  generalize (0-P.1)%p=q
  grind
theorem Qnu {D X n:Int} (hD:D%p≠0) (h:(D*X-n)%p=0) (e:(n-D*1)%p=0):X%p=1%p:=by
  have:(D*(X-1))%p=0:=zc2 h e (c:=1) (d:=1) (by grind)
  exact Qkx ((QeH this).resolve_left hD)
theorem Qpi {x y q:Int} (h:onC x y) (hn:onC q y) (e:(q-(0-x))%p=0):aX x y q y=0∧aY x y q y=1:=by
  have fx:=Qd6 h hn
  have fy:=QcK h hn
  have hX:=Qc4 (QmK x y q y)
  have hY:=Qc4 (QmJ x y q y)
  have hc:=h
  unfold onC cv at hc
  have d1:=QgB h hn
  have d2:=Qg0 h hn
  generalize aX x y q y=X at *
  generalize aY x y q y=Y at *
  constructor
  · have:X%p=0:=by
      refine (QeH (a:=1+eps x y q y) ?_).resolve_left d1
      exact zc2 fx e (c:=1) (d:=y) (by grind)
    rwa [hX] at this
  · have:=Qnu d2 fy (by
      refine zc2 hc e (c:=1) (d:=x+dN*(x*(y*y))) ?_
      unfold eps
      grind)
    rwa [hY] at this
theorem QjN {P : Int×Int} (h:OnP P):pAdd P (pNeg P)=Qec:=by
  have e:((0-P.1)%p-(0-P.1))%p=0:=by rw [subL,zaR]; rfl
  have r:=Qpi h.c (Qjf h).c e
  exact Prod.ext r.1 r.2
def nmul : Nat→Int×Int→Int×Int
  | 0,_=>Qec
  | n+1,P=>pAdd (nmul n P) P
theorem Qd0 {P : Int×Int} (h:OnP P):∀ n,OnP (nmul n P)
  | 0=>Qhx
  | n+1=>QoY (Qd0 h n) h
theorem Qee {P : Int×Int} (h:OnP P) (m:Nat):∀ n,nmul (m+n) P=pAdd (nmul m P) (nmul n P)
  | 0=>(QdM (Qd0 h m)).symm
  | n+1=>by
    show pAdd (nmul (m+n) P) P=pAdd (nmul m P) (pAdd (nmul n P) P)
    rw [Qee h m n,QgO (Qd0 h m) (Qd0 h n) h]
theorem QjU {P : Int×Int} (h:OnP P):nmul 1 P=P:=by
  show pAdd Qec P=P
  rw [Qgq,QdM h]
theorem Qiq : ∀ n,nmul n Qec=Qec
  | 0=>rfl
  | n+1=>by
    show pAdd (nmul n Qec) Qec=Qec
    rw [Qiq n,QdM Qhx]
theorem Qh3 {P : Int×Int} (h:OnP P) (m:Nat):∀ n,nmul (n*m) P=nmul n (nmul m P)
  | 0=>by rw [Nat.zero_mul]; rfl
  | n+1=>by
    rw [Nat.succ_mul,Qee h,Qh3 h m n]
    rfl
theorem Qny {P : Int×Int} (h:OnP P) (L:Nat) (hL:nmul L P=Qec) (n:Nat):nmul (n%L) P=nmul n P:=by
  have e:=Nat.div_add_mod n L
  have:nmul n P=pAdd (nmul (L*(n/L)) P) (nmul (n%L) P):=by rw [←Qee h,e]
  rw [this,zaS,Qh3 h,hL,Qiq,Qgq,QdM (Qd0 h _)]
end Field
end
section
namespace Field
open Go Go.RowKit
open Rely Auto Ladder
set_option maxHeartbeats 4000000
def RepU (X Z y:Int):Prop:=(X+Z)%p≠0∧(X-Z-y*(X+Z))%p=0
theorem QfU {X Z y:Int} (h:RepU X Z y):RepU (X%p) (Z%p) y:=by
  refine ⟨by rw [addL,addR]; exact h.1,?_⟩
  have e1:(X%p-X)%p=0:=QiV (zaP ..)
  have e2:(Z%p-Z)%p=0:=QiV (zaP ..)
  exact zc4 h.2 e1 e2 (d:=0) rfl (k:=1) (l:=1-y) (m:=-1-y) (n:=0) (by grind)
theorem Ql6 {O1 O2 c K S D y:Int} (h1:(c*(O1+O2)-K*S)%p=0) (h2:(c*(O1-O2)-K*D)%p=0) (h3:(D-y*S)%p=0) (hc:c%p≠0) (hK:K%p≠0) (hS:S%p≠0):RepU O1 O2 y:=by
  constructor
  · intro h
    have e:(K*S)%p=0:=zc2 h h1 (c:=c) (d:=-1) (by grind)
    exact QbC hK hS e
  · have e:(c*(O1-O2-y*(O1+O2)))%p=0:=zc4 h1 h2 h3 (d:=0) rfl (k:=-y) (l:=1) (m:=K) (n:=0) (by grind)
    exact (QeH e).resolve_left hc
theorem QqC (d x y u v b r:Int):2*(y*v)*(1+d*(x*u*(y*v)))*(1-d*(x*u*(y*v)))-(1-d*(x*u*(y*v)))*((1+d*(x*u*(y*v)))*b)*(y*y+v*v)-(1+d*(x*u*(y*v)))*((1-d*(x*u*(y*v)))*r)*(y*y+v*v-2*b*(y*v)) =
    (2*(y*v)*(d*(u*u*(v*v))+u*u))*(-(x*x)+y*y-1-d*(x*x*(y*y)))+(2*(y*v)*(y*y-1))*(-(u*u)+v*v-1-d*(u*u*(v*v)))
      + (-(1-d*(x*u*(y*v)))*(y*y+v*v)+2*(y*v)*((1-d*(x*u*(y*v)))*r))*((1+d*(x*u*(y*v)))*b-(y*v-x*u))+(-(1+d*(x*u*(y*v)))*(y*y+v*v)+2*(y*v)*(y*v-x*u))*((1-d*(x*u*(y*v)))*r-(y*v+x*u)):=by grind
theorem dadd {x y u v b X Z Y V w:Int} (h1:onC x y) (h2:onC u v) (hb:((1+eps x y u v)*b-(y*v-x*u))%p=0) (hp:(1+b)%p≠0) (hm:(1-b)%p≠0) (hw:(w*(1-b)-(1+b))%p=0) (r1:RepU X Z y) (r2:RepU Y V v) :
    RepU (((Y-V)*(X+Z)+(Y+V)*(X-Z))*((Y-V)*(X+Z)+(Y+V)*(X-Z))) (w*(((Y-V)*(X+Z)-(Y+V)*(X-Z))*((Y-V)*(X+Z)-(Y+V)*(X-Z)))) (aY x y u v):=by
  have h3:=QcK h1 h2
  have d1:=QgB h1 h2
  have d2:=Qg0 h1 h2
  generalize aY x y u v=r at *
  have hk:(2*(y*v)-b*(y*y+v*v)-r*(y*y+v*v-2*b*(y*v)))%p=0:=by
    have e:((1+eps x y u v)*(1-eps x y u v)*(2*(y*v)-b*(y*y+v*v)-r*(y*y+v*v-2*b*(y*v))))%p=0:=by
      refine zc4 h1 h2 hb h3 ((?_:_=_).trans (QqC dN x y u v b r))
      unfold eps; grind
    exact (QeH e).resolve_left (QbC d1 d2)
  have hS:(y*y+v*v-2*b*(y*v))%p≠0:=fun hs=>by
    have hd:(2*(y*v)-b*(y*y+v*v))%p=0:=zc2 hk hs (c:=1) (d:=r) (by grind)
    have q1:((1-b)*((y+v)*(y+v)))%p=0:=zc2 hs hd (c:=1) (d:=1) (by grind)
    have q2:((1+b)*((v-y)*(v-y)))%p=0:=zc2 hs hd (c:=1) (d:=-1) (by grind)
    have s1:(y+v)%p=0:=(QeH ((QeH q1).resolve_left hm)).elim id id
    have s2:(v-y)%p=0:=(QeH ((QeH q2).resolve_left hp)).elim id id
    have y0:y%p=0:=QoD (zc2 s1 s2 (c:=1) (d:=-1) (by grind))
    have v0:v%p=0:=zc2 s2 y0 (c:=1) (d:=1) (by grind)
    have c1:(x*x+1)%p=0:=zc2 h1 y0 (c:=-1) (d:=y-dN*(x*x*y)) (by unfold cv; grind)
    have c2:(u*u+1)%p=0:=zc2 h2 v0 (c:=-1) (d:=v-dN*(u*u*v)) (by unfold cv; grind)
    have c3:(b+x*u)%p=0:=zc2 hb y0 (c:=1) (d:=v-dN*(x*u*v)*b) (by unfold eps; grind)
    have c4:((1-b)*(1+b))%p=0:=zc4 c1 c2 c3 (d:=0) rfl (k:=-(u*u)) (l:=1) (m:=x*u-b) (n:=0) (by grind)
    exact QbC hm hp c4
  have hT:((X+Z)*(Y+V)*((X+Z)*(Y+V)))%p≠0:=QbC (QbC r1.1 r2.1) (QbC r1.1 r2.1)
  have f1:=r1.2
  have f2:=r2.2
  have hA:((Y-V)*(X+Z)+(Y+V)*(X-Z)-(X+Z)*(Y+V)*(y+v))%p=0:=zc2 f1 f2 (c:=Y+V) (d:=X+Z) (by grind)
  have hB:((Y-V)*(X+Z)-(Y+V)*(X-Z)-(X+Z)*(Y+V)*(v-y))%p=0:=zc2 f1 f2 (c:=-(Y+V)) (d:=X+Z) (by grind)
  generalize (Y-V)*(X+Z)+(Y+V)*(X-Z)=A at *
  generalize (Y-V)*(X+Z)-(Y+V)*(X-Z)=B at *
  generalize (X+Z)*(Y+V)=M at *
  refine Ql6 (c:=1-b) (K:=M*M*2) (S:=y*y+v*v-2*b*(y*v)) (D:=2*(y*v)-b*(y*y+v*v)) ?_ ?_ hk hm (QbC hT (by decide)) hS
  · exact zc4 hA hB hw (d:=0) rfl (k:=(1-b)*(A+M*(y+v))) (l:=(1+b)*(B+M*(v-y))) (m:=B*B) (n:=0) (by grind)
  · exact zc4 hA hB hw (d:=0) rfl (k:=(1-b)*(A+M*(y+v))) (l:=-(1+b)*(B+M*(v-y))) (m:=-(B*B)) (n:=0) (by grind)
theorem Qrs : (dN*121666+121665)%p=0:=by decide +kernel
theorem Qp5 (d x y:Int):(1-d*(x*x*(y*y)))*(2*(y*y)-1-121665*((1-y*y)*(1-y*y)))-(y*y+x*x)*(1+121665*((1-y*y)*(1-y*y))) =
    (2*(1-y*y)*121666+(2*(y*y)-1-121665*((1-y*y)*(1-y*y))))*(-(x*x)+y*y-1-d*(x*x*(y*y)))+(2*(1-y*y)*(x*x*(y*y)))*(d*121666+121665):=by grind
theorem ddbl {x y X Z:Int} (h1:onC x y) (r1:RepU X Z y) :
    RepU ((X+Z)*(X+Z)*((X-Z)*(X-Z))) (((X+Z)*(X+Z)-(X-Z)*(X-Z))*((X+Z)*(X+Z)+((X+Z)*(X+Z)-(X-Z)*(X-Z))*121665)) (aY x y x y):=by
  have h3:=QcK h1 h1
  have d2:=Qg0 h1 h1
  generalize aY x y x y=r at *
  have g1:((1-eps x y x y)*(2*(y*y)-1-121665*((1-y*y)*(1-y*y)))-(y*y+x*x)*(1+121665*((1-y*y)*(1-y*y))))%p=0:=zc2 h1 Qrs ((Qp5 dN x y).trans rfl)
  have hk:((2*(y*y)-1-121665*((1-y*y)*(1-y*y)))-r*(1+121665*((1-y*y)*(1-y*y))))%p=0:=by
    have e:((1-eps x y x y)*((2*(y*y)-1-121665*((1-y*y)*(1-y*y)))-r*(1+121665*((1-y*y)*(1-y*y)))))%p=0:=zc2 g1 h3 (c:=1) (d:=-(1+121665*((1-y*y)*(1-y*y)))) (by grind)
    exact (QeH e).resolve_left d2
  have hS:(1+121665*((1-y*y)*(1-y*y)))%p≠0:=fun hs=>by
    have hd:(2*(y*y)-1-121665*((1-y*y)*(1-y*y)))%p=0:=zc2 hk hs (c:=1) (d:=r) (by grind)
    have hy:(2*(y*y))%p=0:=zc2 hs hd (c:=1) (d:=1) (by grind)
    have y0:y%p=0:=(QeH (QoD hy)).elim id id
    have:(121666:Int)%p=0:=zc2 hs y0 (c:=1) (d:=121665*(2*y-y*y*y)) (by grind)
    exact absurd this (by decide)
  have f1:=r1.2
  have hq:((X-Z)*(X-Z)-y*y*((X+Z)*(X+Z)))%p=0:=zc1 f1 (c:=(X-Z)+y*(X+Z)) (by grind)
  have hT:((X+Z)*(X+Z)*((X+Z)*(X+Z)))%p≠0:=QbC (QbC r1.1 r1.1) (QbC r1.1 r1.1)
  generalize (X-Z)*(X-Z)=q at *
  generalize (X+Z)*(X+Z)=s at *
  refine Ql6 (c:=1) (K:=s*s) (S:=1+121665*((1-y*y)*(1-y*y))) (D:=2*(y*y)-1-121665*((1-y*y)*(1-y*y))) ?_ ?_ hk (by decide) hT hS
  · exact zc1 hq (c:=s-(s+2*121665*s*(1-y*y)-121665*(q-y*y*s))) (by grind)
  · exact zc1 hq (c:=s+(s+2*121665*s*(1-y*y)-121665*(q-y*y*s))) (by grind)
end Field
end
section
namespace Field
open Go Go.RowKit
open Rely Auto Ladder
set_option maxHeartbeats 4000000
structure QiO (w : Int) (B : Int × Int) : Prop where
  on:OnP B
  p1:(1+B.2)%p≠0
  m1:(1-B.2)%p≠0
  hw:(w*(1-B.2)-(1+B.2))%p=0
theorem Qm4 {B : Int×Int} (hB:OnP B) (n:Nat):((1+eps (nmul n B).1 (nmul n B).2 (nmul (n+1) B).1 (nmul (n+1) B).2)*B.2-((nmul n B).2*(nmul (n+1) B).2-(nmul n B).1*(nmul (n+1) B).1))%p=0:=by
  have hP:=Qd0 hB n
  have hQ:=Qd0 hB (n+1)
  have hd:pAdd (nmul (n+1) B) (pNeg (nmul n B))=B:=by
    show pAdd (pAdd (nmul n B) B) (pNeg (nmul n B))=B
    rw [Qgq (nmul n B) B,QgO hB hP (Qjf hP),QjN hP,QdM hB]
  generalize nmul (n+1) B=Q at *
  generalize nmul n B=P at *
  have f:=QcK hQ.c (Qjf hP).c
  have hy:aY Q.1 Q.2 (pNeg P).1 (pNeg P).2=B.2:=congrArg Prod.snd hd
  rw [hy] at f
  have e:((0-P.1)%p-(0-P.1))%p=0:=by rw [subL,zaR]; rfl
  refine zc2 f e (c:=1) (d:=dN*(Q.1*Q.2*P.2)*B.2+Q.1) ?_
  show (1+dN*(P.1*Q.1*(P.2*Q.2)))*B.2-(P.2*Q.2-P.1*Q.1)=1*((1-dN*(Q.1*((0-P.1)%p)*(Q.2*P.2)))*B.2-(Q.2*P.2+Q.1*((0-P.1)%p)))+_
  generalize (0-P.1)%p=q
  grind
def bvf (n : Nat) (bs:List Bool):Nat:=bs.foldl (fun n b=>2*n+if b then 1 else 0) n
def Near (B : Int×Int) (n:Nat) (s:LSt):Prop:=RepU s.1 s.2.1 (nmul n B).2∧RepU s.2.2.1 s.2.2.2 (nmul (n+1) B).2
theorem QlQ {w : Int} {B:Int×Int} (hB:QiO w B) {n:Nat} {s:LSt} (b:Bool) (h:Near B n s):Near B (2*n+if b then 1 else 0) (rung w s b):=by
  obtain ⟨X,Z,Y,V⟩:=s
  obtain ⟨h1,h2⟩:=h
  have hP:=Qd0 hB.on n
  have hQ:=Qd0 hB.on (n+1)
  have hd:=Qm4 hB.on n
  have a1:(nmul (2*n) B).2=aY (nmul n B).1 (nmul n B).2 (nmul n B).1 (nmul n B).2:=by rw [Nat.two_mul,Qee hB.on]; rfl
  have a2:(nmul (2*n+1) B).2=aY (nmul n B).1 (nmul n B).2 (nmul (n+1) B).1 (nmul (n+1) B).2:=by rw [show 2*n+1=n+(n+1) by omega,Qee hB.on]; rfl
  have a3:(nmul (2*n+1+1) B).2=aY (nmul (n+1) B).1 (nmul (n+1) B).2 (nmul (n+1) B).1 (nmul (n+1) B).2:=by rw [show 2*n+1+1=(n+1)+(n+1) by omega,Qee hB.on]; rfl
  generalize nmul (n+1) B=Q at *
  generalize nmul n B=P at *
  cases b with
  | false =>
    simp only [rung,Bool.false_eq_true,if_false,Qcw]
    refine ⟨?_,?_⟩
    · show RepU _ _ (nmul (2*n+0) B).2
      rw [zaF,a1]
      exact QfU (ddbl hP.c h1)
    · show RepU _ _ (nmul (2*n+0+1) B).2
      rw [zaF,a2]
      exact QfU (dadd hP.c hQ.c hd hB.p1 hB.m1 hB.hw h1 h2)
  | true =>
    have hd':((1+eps Q.1 Q.2 P.1 P.2)*B.2-(Q.2*P.2-Q.1*P.1))%p=0:=by
      rw [QhD,za0 Q.2,za0 Q.1]; exact hd
    simp only [rung,if_true,Qcw]
    refine ⟨?_,?_⟩
    · show RepU _ _ (nmul (2*n+1) B).2
      rw [a2,←Qj6]
      exact QfU (dadd hQ.c hP.c hd' hB.p1 hB.m1 hB.hw h2 h1)
    · show RepU _ _ (nmul (2*n+1+1) B).2
      rw [a3]
      exact QfU (ddbl hQ.c h2)
theorem Qis {w : Int} {B:Int×Int} (hB:QiO w B):∀ (bs:List Bool) (n:Nat) (s:LSt),Near B n s→Near B (bvf n bs) (bs.foldl (rung w) s)
  | [],n,s,h=>h
  | b::bs,n,s,h=>Qis hB bs _ _ (QlQ hB b h)
theorem QkJ {w : Int} {B:Int×Int} (hB:QiO w B):Near B 0 (1,0,w,1):=by
  refine ⟨(show RepU 1 0 1 from ⟨by decide,by decide⟩),?_⟩
  show RepU w 1 (nmul 1 B).2
  rw [QjU hB.on]
  refine ⟨fun h=>?_,zc1 hB.hw (c:=1) (by grind)⟩
  have:(2:Int)%p=0:=zc2 hB.hw h (c:=-1) (d:=1-B.2) (by grind)
  exact absurd this (by decide)
theorem QgF {w : Int} {B:Int×Int} (hB:QiO w B) (bs:List Bool):Near B (bvf 0 bs) (rungs w bs):=Qis hB bs 0 _ (QkJ hB)
def uP (y : Int):Int:=(1+y)*invN ((1-y)%p)%p
def QkV : Int:=28948022309329048855892746252171976963317496166410141009864396001978282409975
theorem Qmo : (2*QkV-1)%p=0:=by decide +kernel
theorem QoO {X Z y:Int} (h:RepU X Z y) (hX:isN X) (hZ:isN Z):X*invN Z%p=uP y:=by
  have hl:((X+Z)*QkV)%p≠0:=QbC h.1 (by decide +kernel)
  have e1:X%p=(X+Z)*QkV*(1+y)%p:=Qkx (zc2 Qmo h.2 (c:=-X) (d:=QkV) (by grind))
  have e2:Z%p=(X+Z)*QkV*(1-y)%p:=Qkx (zc2 Qmo h.2 (c:=-Z) (d:=-QkV) (by grind))
  rw [Qc4 hX,←modR] at e1
  rw [Qc4 hZ,←modR] at e2
  have:=Qoq hl (QaF (1+y)) (QaF (1-y))
  rw [←e1,←e2,modL] at this
  exact this
theorem Qoi (y : Int):isN (uP y):=QaF _
theorem QgP {w : Int} {B:Int×Int} (hB:QiO w B) (hw:isN w) (bs:List Bool):outN w (rungs w bs)=uP (nmul (bvf 0 bs) B).2:=by
  have hL:=Qep w hw bs
  exact QoO (QgF hB bs).1 hL.1 hL.2.1
theorem Qob {P : Int×Int} (h:OnP P) (hp:(1+P.2)%p≠0) (hm:(1-P.2)%p≠0):QiO (uP P.2) P:=by
  refine ⟨h,hp,hm,?_⟩
  have h1:=QkT hm
  have h2:(uP P.2-(1+P.2)*invN ((1-P.2)%p))%p=0:=QiV (zaP ..)
  exact zc2 h1 h2 (c:=1+P.2) (d:=1-P.2) (by grind)
theorem QqN {y : Int} (hp:(1+y)%p≠0) (hm:(1-y)%p≠0):uP y≠0:=by
  refine QbC hp fun e=>?_
  have h1:=QkT hm
  rw [←subL,←modR,e,za8] at h1
  exact absurd h1 (by decide)
theorem Qoh {P : Int×Int} (h:OnP P) (hy:(P.2*P.2-1)%p=0):P.1=0:=by
  have e:((1+dN)*(P.1*P.1))%p=0:=zc2 h.c hy (c:=-1) (d:=1-dN*(P.1*P.1)) (by unfold cv; grind)
  have:=(QeH ((QeH e).resolve_left (by decide +kernel))).elim id id
  rwa [Qc4 h.x] at this
theorem QpJ {P : Int×Int} (h:OnP P) (hy:(1-P.2)%p=0):P=Qec:=by
  refine Prod.ext (Qoh h (zc1 hy (c:=-(1+P.2)) (by grind))) ?_
  have:P.2%p=1%p:=Qkx (zc1 hy (c:=-1) (by grind))
  rw [Qc4 h.y] at this
  exact this
theorem Qo5 {P : Int×Int} (h:OnP P) (hy:(1+P.2)%p=0):pAdd P P=Qec:=by
  have hx:=Qoh h (zc1 hy (c:=P.2-1) (by grind))
  have e:pNeg P=P:=Prod.ext (by show (0-P.1)%p=P.1; rw [hx]; rfl) rfl
  have:=QjN h
  rwa [e] at this
def B9 : Int×Int:=(15112221349535400772501151409588531511454012693041857206046113283949847762202,46316835694926478169428394003475163141307993866256225615783033603165251855960)
theorem Qe2 : QiO 9 B9:=⟨⟨⟨by decide,by decide⟩,⟨by decide,by decide⟩,by unfold onC; decide +kernel⟩,by decide +kernel,by decide +kernel,by decide +kernel⟩
def ladZ (u e:Nat):Nat→Nat→Nat→Nat→Nat→Nat
  | 0,x,z,y,v=>z
  | f+1,x,z,y,v=>bif Nat.beq (e/2^f%2) 1 then lsN (fun a b c d=>ladZ u e f c d a b) u y v x z else lsN (fun a b c d=>ladZ u e f a b c d) u x z y v
theorem Qgw (u e:Nat):∀ (f x z y v:Nat),x<PN→z<PN→y<PN→v<PN→((ladZ u e f x z y v:Nat):Int)=((QdG e f).foldl (rung u) ((x:Int),(z:Int),(y:Int),(v:Int))).2.1
  | 0,x,z,y,v,hx,hz,hy,hv=>rfl
  | f+1,x,z,y,v,hx,hz,hy,hv=>by
    rw [ladZ,QdG,zaB]
    cases Nat.beq (e/2^f%2) 1 with
    | true =>
      rw [_root_.cond_true]
      obtain ⟨a,b,c,d,ha,hb,hc,hd,h1,h2⟩:=QlZ (fun a b c d=>ladZ u e f c d a b) u y v x z hy hv hx hz
      rw [h1]
      simp only [rung,if_true,h2]
      exact Qgw u e f c d a b hc hd ha hb
    | false =>
      rw [_root_.cond_false]
      obtain ⟨a,b,c,d,ha,hb,hc,hd,h1,h2⟩:=QlZ (fun a b c d=>ladZ u e f a b c d) u x z y v hx hz hy hv
      rw [h1]
      simp only [rung,Bool.false_eq_true,if_false,h2]
      exact Qgw u e f a b c d ha hb hc hd
def LN : Nat:=7237005577332262213973186563042994240857116359379907606001950938285454250989
theorem Qjh : ladZ 9 LN 253 1 0 9 1=0:=by decide +kernel
theorem Qhy : bvf 0 (QdG LN 253)=LN:=by decide +kernel
theorem Qpf (L : Nat) (Qjh:ladZ 9 L 253 1 0 9 1=0) (Qhy:bvf 0 (QdG L 253)=L):nmul L B9=Qec:=by
  have h:=(QgF Qe2 (QdG L 253)).1
  have hz:(rungs 9 (QdG L 253)).2.1=0:=by
    have:=Qgw 9 L 253 1 0 9 1 (by decide) (by decide) (by decide) (by decide)
    rw [Qjh] at this
    exact this.symm
  rw [hz,Qhy] at h
  refine QpJ (Qd0 Qe2.on L) ?_
  have e:((rungs 9 (QdG L 253)).1*(1-(nmul L B9).2))%p=0:=zc1 h.2 (c:=1) (by grind)
  refine (QeH e).resolve_left fun q=>h.1 ?_
  rw [zaQ]; exact q
theorem Qpe : nmul LN B9=Qec:=Qpf LN Qjh Qhy
theorem Qp1 {P : Int×Int} (h:OnP P):∀ m n,nmul m P=Qec→nmul n P=Qec→nmul (zaT m n) P=Qec:=by
  intro m n
  induction m,n using zaT.induction with
  | H0 n=>intro _ h; simpa using h
  | H1 m n hm ih =>
    intro h1 h2
    rw [Nat.gcd_rec]
    refine ih ?_ h1
    rw [Qny h m h1]; exact h2
theorem Qkt : Prime.IsP LN:=Prime.q7237005577332262213973186563042994240857116359379907606001950938285454250989
theorem QlM {m : Nat} (h:nmul m B9=Qec):LN ∣ m:=by
  have hg:=Qp1 Qe2.on LN m Qpe h
  rcases Qkt.2 (zaT LN m) (zaU LN m) with e | e
  · rw [e,QjU Qe2.on] at hg
    exact absurd (congrArg Prod.fst hg) (by decide)
  · rw [←e]; exact zaV LN m
theorem Qku {a b:Nat} (h:LN ∣ a*b):LN ∣ a∨LN ∣ b:=by
  rcases Qkt.2 (zaT LN a) (zaU LN a) with hg | hg
  · right
    have hc:Nat.Coprime LN a:=hg
    exact hc.dvd_of_dvd_mul_left h
  · left
    rw [←hg]
    exact zaV LN a
theorem good {N : Nat} (h:¬ LN ∣ 2*N):QiO (uP (nmul N B9).2) (nmul N B9):=by
  have on:=Qd0 Qe2.on N
  have e2:nmul (2*N) B9=pAdd (nmul N B9) (nmul N B9):=by rw [Nat.two_mul,Qee Qe2.on]
  refine Qob on (fun hp=>h (QlM ?_)) (fun hm=>h (QlM ?_))
  · rw [e2]; exact Qo5 on hp
  · rw [e2,QpJ on hm]; exact QdM Qhx
def QkZ (xs : List Int):List Bool:=((QbA (clamp xs)).drop 1).take (255-0)
def cN (xs : List Int):Nat:=bvf 0 (QkZ xs)
theorem QeE (n : Nat) (bs:List Bool) (b:Bool):bvf n (bs++[b])=2*bvf n bs+if b then 1 else 0:=by unfold bvf; rw [List.foldl_append]; rfl
theorem QiF : ∀ (bs:List Bool) (n:Nat),n*2^bs.length≤bvf n bs∧bvf n bs<(n+1)*2^bs.length
  | [],n=>by simp [bvf]
  | b::bs,n=>by
    have h:=QiF bs (2*n+if b then 1 else 0)
    have e:bvf n (b::bs)=bvf (2*n+if b then 1 else 0) bs:=rfl
    rw [e,List.length_cons,Nat.pow_succ]
    have hb:(if b=true then 1 else 0)≤1:=by split <;> omega
    generalize (if b=true then 1 else 0)=c at *
    generalize 2^bs.length=q at *
    constructor
    · refine qT ?_ h.1
      rw [zaS q 2,←Nat.mul_assoc,zaS n 2]
      exact zaW q (by omega)
    · refine qL h.2 ?_
      rw [zaS q 2,←Nat.mul_assoc]
      exact zaW q (by omega)
theorem Qg2 (xs : List Int) (hx:xs.length=32) (j:Nat) (hj:j<3):bitB (clamp xs) j=false:=by
  have h0:nth (clamp xs) 0=nth xs 0/8*8:=by unfold clamp; rw [Ladder.nth_set_ne _ _ _ _ (by decide),Qe9 _ _ _ (by omega)]
  unfold bitB Qek
  rw [show j/8=0 by omega,h0]
  rcases (show j=0∨j=1∨j=2 by omega) with rfl | rfl | rfl
  · have:nth xs 0/8*8/2^(0%8)%2=0:=by rw [show (2:Int)^(0%8)=1 from rfl]; omega
    rw [this]; rfl
  · have:nth xs 0/8*8/2^(1%8)%2=0:=by rw [show (2:Int)^(1%8)=2 from rfl]; omega
    rw [this]; rfl
  · have:nth xs 0/8*8/2^(2%8)%2=0:=by rw [show (2:Int)^(2%8)=4 from rfl]; omega
    rw [this]; rfl
theorem Qq4 (xs : List Int) (hx:xs.length=32) (hb:Qaf xs):∃ m,cN xs=8*m∧2^251≤m∧m<2^252:=by
  obtain ⟨h255,h254⟩:=Qha xs hx hb
  have hc:=Qhc (clamp xs)
  rw [h255,h254] at hc
  have hd:QkZ xs=true::(QbA (clamp xs)).drop 2:=by
    unfold QkZ
    rw [zaA (by simp [QdR])]
    conv=>lhs; rw [hc]
    rfl
  have t0:=QeF (clamp xs) 0 (by decide)
  have t1:=QeF (clamp xs) 1 (by decide)
  have t2:=QeF (clamp xs) 2 (by decide)
  rw [Qg2 xs hx 0 (by decide)] at t0
  rw [Qg2 xs hx 1 (by decide)] at t1
  rw [Qg2 xs hx 2 (by decide)] at t2
  have hl:(QbA (clamp xs)).length=256:=QdR _
  have e:QkZ xs=((QbA (clamp xs)).take 253).drop 1++[false]++[false]++[false]:=by
    unfold QkZ
    rw [zaA (by simp [QdR])]
    have e1:QbA (clamp xs)=(QbA (clamp xs)).take 253++[false]++[false]++[false]:=by
      have q:(QbA (clamp xs)).take (256-0)=QbA (clamp xs):=zaA (by omega)
      rw [q] at t0
      conv=>lhs; rw [t0,show 256-(0+1)=256-1 from rfl,t1,show 256-(1+1)=256-2 from rfl,t2]
    have hl2:((QbA (clamp xs)).take 253).length=253:=by rw [List.length_take]; omega
    conv=>lhs; rw [e1]
    rw [zaX (by simp only [zaY]; omega),zaX (by simp only [zaY]; omega),zaX (by omega)]
  have hr:2^254≤cN xs∧cN xs<2^255:=by
    unfold cN
    rw [hd]
    have h1:=QiF ((QbA (clamp xs)).drop 2) 1
    have hl3:((QbA (clamp xs)).drop 2).length=254:=by rw [List.length_drop,hl]
    rw [hl3] at h1
    have e2:∀ l,bvf 0 (true::l)=bvf 1 l:=fun _=>rfl
    rw [e2]
    omega
  refine ⟨bvf 0 (((QbA (clamp xs)).take 253).drop 1),?_,?_,?_⟩
  · unfold cN
    rw [e,QeE,QeE,QeE]
    simp only [Bool.false_eq_true,if_false]
    omega
  all_goals
    have q:cN xs=8*bvf 0 (((QbA (clamp xs)).take 253).drop 1):=by
      unfold cN
      rw [e,QeE,QeE,QeE]
      simp only [Bool.false_eq_true,if_false]
      omega
    omega
theorem Qq5 (xs : List Int) (hx:xs.length=32) (hb:Qaf xs):¬ LN ∣ cN xs:=fun h=>by
  obtain ⟨m,e,h1,h2⟩:=Qq4 xs hx hb
  rw [e] at h
  have two:¬ LN ∣ 2:=fun q=>by have:=zaZ (by decide) q; exact absurd this (by decide)
  have hm:LN ∣ m:=by
    rcases Qku (a:=8) h with q | q
    · rw [show (8:Nat)=2*(2*2) from rfl] at q
      rcases Qku q with q | q
      · exact absurd q two
      · rcases Qku q with q | q <;> exact absurd q two
    · exact q
  have:=zaZ (qL (by decide) h1) hm
  unfold LN at this
  omega
theorem Qjo {xs : List Int} {N:Nat} (hx:xs.length=32) (hb:Qaf xs) (h:¬ LN ∣ 2*N):¬ LN ∣ 2*(cN xs*N):=fun q=>by
  rw [Nat.mul_left_comm] at q
  rcases Qku q with q | q
  · exact Qq5 xs hx hb q
  · exact h q
theorem QlP : ¬ LN ∣ 2*1:=fun q=>by have:=zaZ (by decide) q; exact absurd this (by decide)
theorem QlV (a B:Int) (hB:0<B):a%B+B*(a/B%256)=a%(B*256):=by
  have e1:=zba a B
  have e2:=zba (a/B) 256
  have r0:=zbb a (show B≠0 by omega)
  have r1:=zbc a hB
  have s0:=zbb (a/B) (show (256:Int)≠0 by decide)
  have s1:=zbc (a/B) (show (0:Int)<256 by decide)
  generalize a%B=r at *
  generalize a/B%256=s at *
  generalize a/B/256=t at *
  generalize a/B=q at *
  have e3:a=(r+B*s)+B*256*t:=by rw [←e1,←e2]; grind
  have m1:B*s≤B*255:=Int.mul_le_mul_of_nonneg_left (by omega) (by omega)
  have m2:0≤B*s:=Int.mul_nonneg (by omega) s0
  rw [e3,Int.add_mul_emod_self_left]
  exact (zav (by omega) (by omega)).symm
theorem Qi3 (n : Int):∀ k,k≤32→leAt (Qav n) 0 k=n%256^k
  | 0,_=>by simp [leAt,Int.emod_one]
  | k+1,hk=>by
    have q:nth (Qav n) (0+k)=QaM n k:=by unfold nth Qav part; simp [show k<32 by omega]
    rw [leAt,Qi3 n k (by omega),q,zaO,←QlV _ _ (za2 (by decide))]
    unfold QaM
    rw [za0 (n/256^k%256)]
theorem Qi4 {n : Int} (h:isN n):QfF (Qav n)=n:=by
  unfold QfF
  rw [Qi3 n 32 (qR _),show (256:Int)^32=115792089237316195423570985008687907853269984665640564039457584007913129639936 from rfl]
  have h1:=h.1
  have h2:=h.2
  unfold p at *
  omega
theorem bytesOf_areBytes (n : Int):Qaf (Qav n):=fun v hv=>by
  unfold Qav part at hv
  obtain ⟨i,-,rfl⟩:=List.mem_map.1 hv
  split
  · unfold QaM; omega
  · omega
theorem Qg1 (u : Int) (xs:List Int):crungs u (clamp xs) 0=rungs u (QkZ xs):=rfl
theorem Qon (xs : List Int):pubL xs=Qav (uP (nmul (cN xs*1) B9).2):=by
  unfold pubL
  rw [Qg1,QgP Qe2 Qh4,zbd]
  rfl
theorem QqB (xs : List Int) {N:Nat} (h:¬ LN ∣ 2*N):agN xs (Qav (uP (nmul N B9).2))=uP (nmul (cN xs*N) B9).2:=by
  unfold agN
  rw [Qi4 (Qoi _),Qg1,QgP (good h) (Qoi _),Qh3 Qe2.on]
  rfl
theorem Qry {N : Nat} (h:¬ LN ∣ 2*N):(uP (nmul N B9).2==0)=false:=by
  have:=QqN (good h).p1 (good h).m1
  simpa using this
theorem Qbc {xs ys:List Int} (hx:xs.length=32) (hb:Qaf xs) (hy:ys.length=32) (hc:Qaf ys):agN xs (pubL ys)=agN ys (pubL xs)∧(agN xs (pubL ys)==0)=false:=by
  have n1:=Qjo hx hb QlP
  have n2:=Qjo hy hc QlP
  rw [Qon,Qon,QqB xs n2,QqB ys n1]
  refine ⟨?_,Qry (Qjo hx hb n2)⟩
  rw [zbd,zbd,zaS]
end Field
end
end
section
namespace No
open Go Go.RowKit
open Rely Auto Own Sha
open Cha
open Ae hiding run_storeQ
open Ll hiding run_storeQ
open Ci
open Field (Qav pubL agN Qat Qbc QaE Qbk)
abbrev HR (key : List Int) (has : Bool) (num : Int) (chain hash : List Int) (begins : Bool) (sk pk peer : List Int) (stage : Int) (mine theirs : List Int) : Array Value := cat [ints .u8 key, #[.bool has], #[.int .i64 num], ints .u8 chain, ints .u8 hash, #[.bool begins], ints .u8 sk, ints .u8 pk, ints .u8 peer, #[.int .i64 stage], ints .u8 mine, ints .u8 theirs]
structure Tabs (tc tq th tr : TypeId) (w : World) : Prop where
  c:w.heap[1]? = some (.cells (ints .u64 QbI) tc)
  q:w.heap[0]? = some (.cells (ints .u64 Qbf) tq)
  h:w.heap[2]? = some (.cells (ints .u32 qH) th)
  r:w.heap[3]? = some (.cells (ints .i64 qQ) tr)
theorem QeP {P : Program} {ρ:Operand→Value} {o:Oper} {w:World} (t:TypeId) (parts:Array (Nat×Operand)) (z:Value) (n size:Nat) (e:TypeId) (ps:List (Nat×Nat×Value×Array Value))
    (ho:o.op=.build t parts) (hv:(parts.map fun (i,x)=>(i,ρ x)).toList=ps.map fun x=>(x.1,x.2.2.1)) (hp:okPl (fun i=>some (i*size,size)) 0 ps) (ht:tot ps=z.cells.size)
    (hz:(zeroValue t).run P w=.ok z w) (hu:P.underlying t=some (.array n e)) (hm:(sizeOf e).run P w=.ok size w) :
    (execOp ρ o).run P w=.ok (.value (.agg (cat (ps.map fun x=>x.2.2.2)))) w:=by
  have:=Field.fill_cat (fun i=>some (i*size,size)) ps [] z.cells 0 rfl hp ht
  rw [show cat []++z.cells=z.cells by simp [cat],zat] at this
  rw [←hv] at this
  have hB:(Instr.build t (parts.map fun (i,x)=>(i,ρ x))).run P w=.ok (.agg (cat (ps.map fun x=>x.2.2.2))) w:=by
    unfold Instr.build
    rw [zaH,hz,zaI,zaH,run_underlying hu w,zaI]
    show (Sem.run P _ w)=_
    rw [zaH,hm,zaI]
    simp only [this]
    rfl
  unfold execOp
  simp only [ho,zaH,hB,zaI,Sem.run_pure]
theorem hcat (a b c d e f:Array Value) (r:List (Array Value)):cat (a::b::c::d::e::f::r)=cat [a,b,c,d,e,cat (f::r)]:=by
  simp only [Qab,cat,Array.append_empty]
theorem QeB (g : Nat) {Tg:TypeId} {f:Array Value} {r:List (Array Value)} (key chain hash:List Int) (has:Bool) (num:Int) (sec:List Int) (v:Value) (B:Nat) (tc tq:TypeId) (w:World) (hkl:key.length=32) (hcl:chain.length=32) (hhl:hash.length=32) (hcb:Qaf chain) (hsb:Qaf sec) (hsl:sec.length≤800000000) (hc:w.heap[1]? = some (.cells (ints .u64 QbI) tc)) (hq:w.heap[0]? = some (.cells (ints .u64 Qbf) tq))
    (hg:w.heap[g]? = some (.cells (cat (ints .u8 (key)::#[.bool has]::#[.int .i64 num]::ints .u8 (chain)::ints .u8 (hash)::f::r)) Tg)) (hs:RdK .u8 B sec v w) :
    Calls Tryz.prog 74 #[.pointer (some ⟨g,0,none⟩),v] w (fun e W=>e=.returned (.tuple #[])∧ExtB g w W∧W.heap[g]? = some (.cells (cat (ints .u8 (twB (hmac chain sec))::#[.bool true]::#[.int .i64 0]::ints .u8 (twA (hmac chain sec))::ints .u8 (hash)::f::r)) Tg)):=by
  rw [hcat] at hg ⊢
  exact QkK g key chain hash has num sec v B tc tq w hkl hcl hhl hcb hsb hsl hc hq hg hs
theorem Qq3 (a b c d:Array Value):cat [cat [a,b],cat [c,d]]=cat [a,b,c,d]:=by
  show (a++b)++(c++d)=a++(b++(c++d))
  rw [Array.append_assoc]
theorem Qhn {P : Program} {ρ:Operand→Value} {o:Oper} {w:World} {a b c d:Array Value} (h:(execOp ρ o).run P w=.ok (.value (.agg (cat [cat [a,b],cat [c,d]]))) w):(execOp ρ o).run P w=.ok (.value (.agg (cat [a,b,c,d]))) w:=by rw [←Qq3]; exact h
theorem Qdj {P : Program} {ρ:Operand→Value} {o:Oper} {w:World} (t:TypeId) (x z:Operand) (pre mid post:List (Array Value)) (i n m off:Nat) (e:TypeId) (ho:o.op=.index t x z) (hx:ρ x=.agg (cat (pre++(mid++post)))) (hz:ρ z=.int .i64 (i:Int))
    (hu:P.underlying t=some (.array n e)) (hi:i<n) (hoff:i*m=off) (hpre:(cat pre).size=off) (hmid:(cat mid).size=m) (ha:aggD P e=some true) (he:(P.info? e).map (·.size)=some m):(execOp ρ o).run P w=.ok (.value (.agg (cat mid))) w:=by
  have h1:=Field.run_part_cat (P:=P) (w:=w) e pre mid post off m hpre hmid ha he
  unfold execOp
  simp only [ho,hx,hz,zaH]
  unfold Instr.index
  cases hI:P.info? e with
  | none=>simp [hI] at he
  | some inf =>
    have hs:inf.size=m:=by simpa [hI] using he
    have h2:((0:Int)≤(i:Int)∧(i:Int)<(n:Int)):=by omega
    simp [asIntOf,run_underlying hu,zaH,sizeOf,typeInfo,hI,hs,hi,hoff,h1]
end No
end
section
namespace No
open Go Go.RowKit
open Rely Auto Own Sha
open Cha
open Ae hiding run_storeQ
open Ll hiding run_storeQ
open Ci
open Field (Qav pubL agN Qat Qbc QaE Qbk)
theorem Qk4 (g : Nat) (key chain hash sk pk peer mine theirs:List Int) (has:Bool) (num:Int) (w:World) (hkl:key.length=32) (hcl:chain.length=32) (hhl:hash.length=32) (hskl:sk.length=32) (hpkl:pk.length=32) (hpel:peer.length=32) (hmil:mine.length=32) (hthl:theirs.length=32) (hg:w.heap[g]? = some (.cells (HR key has num chain hash true sk pk peer 0 mine theirs) 76)):Calls Tryz.prog 20 #[.pointer (some ⟨g,0,none⟩)] w (Ret w (.bool true)):=by
  refine enter 19 [(0,.pointer (some ⟨g,0,none⟩))] Tryz.func20 rfl rfl kj rfl <| sgB kj <| wp_seq_k fun K3 hK3=>sgB kj <| cond_false kj <| wp_skip <| hK3 _ _ <| wp_seq_k fun K5 hK5=>sgC fun K6 hK6=>sg 3 kj ?_
  refine Qac (.bool true) 8 rfl kj (Qaj 4 _ g 98 76 _ (.bool true) _ hg rfl kj (Qaq [ints .u8 (key),#[.bool has],#[.int .i64 num],ints .u8 (chain),ints .u8 (hash)] [#[.bool true]] [ints .u8 (sk),ints .u8 (pk),ints .u8 (peer),#[.int .i64 0],ints .u8 (mine),ints .u8 (theirs)] 98 (by rw [Qab,Qab,Qab,Qab,Qab]; simp only [qS,cat,(izT hcl),(izT hhl),(izT hkl)]; rfl) 0 _ rfl) kj) ?_
  refine sgN hK6 <| cond_true kj <| sgC fun K7 hK7=>sg 3 kj <| Qac (.int .i64 0) 12 rfl kj (Qaj 74 _ g 195 76 _ (.int .i64 0) _ hg rfl kj (Qaq [ints .u8 (key),#[.bool has],#[.int .i64 num],ints .u8 (chain),ints .u8 (hash),#[.bool true],ints .u8 (sk),ints .u8 (pk),ints .u8 (peer)] [#[.int .i64 0]] [ints .u8 (mine),ints .u8 (theirs)] 195 (by rw [Qab,Qab,Qab,Qab,Qab,Qab,Qab,Qab,Qab]; simp only [qS,cat,(izT hcl),(izT hhl),(izT hkl),(izT hpel),(izT hpkl),(izT hskl)]; rfl) 0 _ rfl) kj) ?_
  refine sg 2 kj <| sgN hK7 <| wp_ret ?_
  exact (show bodyPost _ _ _ .ret _ _ from ret1 (.bool true) rfl (Qa4 kj) ⟨rfl,(zbg w)⟩)
theorem Qk3 (g : Nat) (key chain hash sk pk peer mine theirs:List Int) (has:Bool) (num:Int) (w:World) (hkl:key.length=32) (hcl:chain.length=32) (hhl:hash.length=32) (hskl:sk.length=32) (hpkl:pk.length=32) (hpel:peer.length=32) (hmil:mine.length=32) (hthl:theirs.length=32) (hg:w.heap[g]? = some (.cells (HR key has num chain hash true sk pk peer 1 mine theirs) 76)):Calls Tryz.prog 20 #[.pointer (some ⟨g,0,none⟩)] w (Ret w (.bool false)):=by
  refine enter 19 [(0,.pointer (some ⟨g,0,none⟩))] Tryz.func20 rfl rfl kj rfl <| sgB kj <| wp_seq_k fun K3 hK3=>sgB kj <| cond_false kj <| wp_skip <| hK3 _ _ <| wp_seq_k fun K5 hK5=>sgC fun K6 hK6=>sg 3 kj ?_
  refine Qac (.bool true) 8 rfl kj (Qaj 4 _ g 98 76 _ (.bool true) _ hg rfl kj (Qaq [ints .u8 (key),#[.bool has],#[.int .i64 num],ints .u8 (chain),ints .u8 (hash)] [#[.bool true]] [ints .u8 (sk),ints .u8 (pk),ints .u8 (peer),#[.int .i64 1],ints .u8 (mine),ints .u8 (theirs)] 98 (by rw [Qab,Qab,Qab,Qab,Qab]; simp only [qS,cat,(izT hcl),(izT hhl),(izT hkl)]; rfl) 0 _ rfl) kj) ?_
  refine sgN hK6 <| cond_true kj <| sgC fun K7 hK7=>sg 3 kj <| Qac (.int .i64 1) 12 rfl kj (Qaj 74 _ g 195 76 _ (.int .i64 1) _ hg rfl kj (Qaq [ints .u8 (key),#[.bool has],#[.int .i64 num],ints .u8 (chain),ints .u8 (hash),#[.bool true],ints .u8 (sk),ints .u8 (pk),ints .u8 (peer)] [#[.int .i64 1]] [ints .u8 (mine),ints .u8 (theirs)] 195 (by rw [Qab,Qab,Qab,Qab,Qab,Qab,Qab,Qab,Qab]; simp only [qS,cat,(izT hcl),(izT hhl),(izT hkl),(izT hpel),(izT hpkl),(izT hskl)]; rfl) 0 _ rfl) kj) ?_
  refine sg 2 kj <| sgN hK7 <| wp_ret ?_
  exact (show bodyPost _ _ _ .ret _ _ from ret1 (.bool false) rfl (Qa4 kj) ⟨rfl,(zbg w)⟩)
theorem QiR (g : Nat) (key chain hash sk pk peer mine theirs:List Int) (has:Bool) (num:Int) (w:World) (hkl:key.length=32) (hcl:chain.length=32) (hhl:hash.length=32) (hskl:sk.length=32) (hpkl:pk.length=32) (hpel:peer.length=32) (hmil:mine.length=32) (hthl:theirs.length=32) (hg:w.heap[g]? = some (.cells (HR key has num chain hash false sk pk peer 0 mine theirs) 76)):Calls Tryz.prog 20 #[.pointer (some ⟨g,0,none⟩)] w (Ret w (.bool false)):=by
  refine enter 19 [(0,.pointer (some ⟨g,0,none⟩))] Tryz.func20 rfl rfl kj rfl <| sgB kj <| wp_seq_k fun K3 hK3=>sgB kj <| cond_false kj <| wp_skip <| hK3 _ _ <| wp_seq_k fun K5 hK5=>sgC fun K6 hK6=>sg 3 kj ?_
  refine Qac (.bool false) 8 rfl kj (Qaj 4 _ g 98 76 _ (.bool false) _ hg rfl kj (Qaq [ints .u8 (key),#[.bool has],#[.int .i64 num],ints .u8 (chain),ints .u8 (hash)] [#[.bool false]] [ints .u8 (sk),ints .u8 (pk),ints .u8 (peer),#[.int .i64 0],ints .u8 (mine),ints .u8 (theirs)] 98 (by rw [Qab,Qab,Qab,Qab,Qab]; simp only [qS,cat,(izT hcl),(izT hhl),(izT hkl)]; rfl) 0 _ rfl) kj) ?_
  refine sgN hK6 <| cond_false kj <| wp_skip <| hK5 _ _ <| sgC fun K7 hK7=>sg 3 kj <| Qac (.int .i64 0) 17 rfl kj (Qaj 74 _ g 195 76 _ (.int .i64 0) _ hg rfl kj (Qaq [ints .u8 (key),#[.bool has],#[.int .i64 num],ints .u8 (chain),ints .u8 (hash),#[.bool false],ints .u8 (sk),ints .u8 (pk),ints .u8 (peer)] [#[.int .i64 0]] [ints .u8 (mine),ints .u8 (theirs)] 195 (by rw [Qab,Qab,Qab,Qab,Qab,Qab,Qab,Qab,Qab]; simp only [qS,cat,(izT hcl),(izT hhl),(izT hkl),(izT hpel),(izT hpkl),(izT hskl)]; rfl) 0 _ rfl) kj) ?_
  refine sg 2 kj <| sgN hK7 <| wp_ret ?_
  exact (show bodyPost _ _ _ .ret _ _ from ret1 (.bool false) rfl (Qa4 kj) ⟨rfl,(zbg w)⟩)
theorem QiQ (g : Nat) (key chain hash sk pk peer mine theirs:List Int) (has:Bool) (num:Int) (w:World) (hkl:key.length=32) (hcl:chain.length=32) (hhl:hash.length=32) (hskl:sk.length=32) (hpkl:pk.length=32) (hpel:peer.length=32) (hmil:mine.length=32) (hthl:theirs.length=32) (hg:w.heap[g]? = some (.cells (HR key has num chain hash false sk pk peer 1 mine theirs) 76)):Calls Tryz.prog 20 #[.pointer (some ⟨g,0,none⟩)] w (Ret w (.bool true)):=by
  refine enter 19 [(0,.pointer (some ⟨g,0,none⟩))] Tryz.func20 rfl rfl kj rfl <| sgB kj <| wp_seq_k fun K3 hK3=>sgB kj <| cond_false kj <| wp_skip <| hK3 _ _ <| wp_seq_k fun K5 hK5=>sgC fun K6 hK6=>sg 3 kj ?_
  refine Qac (.bool false) 8 rfl kj (Qaj 4 _ g 98 76 _ (.bool false) _ hg rfl kj (Qaq [ints .u8 (key),#[.bool has],#[.int .i64 num],ints .u8 (chain),ints .u8 (hash)] [#[.bool false]] [ints .u8 (sk),ints .u8 (pk),ints .u8 (peer),#[.int .i64 1],ints .u8 (mine),ints .u8 (theirs)] 98 (by rw [Qab,Qab,Qab,Qab,Qab]; simp only [qS,cat,(izT hcl),(izT hhl),(izT hkl)]; rfl) 0 _ rfl) kj) ?_
  refine sgN hK6 <| cond_false kj <| wp_skip <| hK5 _ _ <| sgC fun K7 hK7=>sg 3 kj <| Qac (.int .i64 1) 17 rfl kj (Qaj 74 _ g 195 76 _ (.int .i64 1) _ hg rfl kj (Qaq [ints .u8 (key),#[.bool has],#[.int .i64 num],ints .u8 (chain),ints .u8 (hash),#[.bool false],ints .u8 (sk),ints .u8 (pk),ints .u8 (peer)] [#[.int .i64 1]] [ints .u8 (mine),ints .u8 (theirs)] 195 (by rw [Qab,Qab,Qab,Qab,Qab,Qab,Qab,Qab,Qab]; simp only [qS,cat,(izT hcl),(izT hhl),(izT hkl),(izT hpel),(izT hpkl),(izT hskl)]; rfl) 0 _ rfl) kj) ?_
  refine sg 2 kj <| sgN hK7 <| wp_ret ?_
  exact (show bodyPost _ _ _ .ret _ _ from ret1 (.bool true) rfl (Qa4 kj) ⟨rfl,(zbg w)⟩)
theorem Qkk (g : Nat) (key chain hash sk pk peer mine theirs:List Int) (has begins:Bool) (num:Int) (w:World) (hkl:key.length=32) (hcl:chain.length=32) (hhl:hash.length=32) (hskl:sk.length=32) (hpkl:pk.length=32) (hpel:peer.length=32) (hmil:mine.length=32) (hthl:theirs.length=32) (hg:w.heap[g]? = some (.cells (HR key has num chain hash begins sk pk peer 2 mine theirs) 76)):Calls Tryz.prog 22 #[.pointer (some ⟨g,0,none⟩)] w (Ret w (.bool true)):=by
  refine enter 12 [(0,.pointer (some ⟨g,0,none⟩))] Tryz.func22 rfl rfl kj rfl <| sgB kj <| sgC fun K3 hK3=>sg 6 kj <| Qac (.int .i64 2) 9 rfl kj (Qaj 74 _ g 195 76 _ (.int .i64 2) _ hg rfl kj (Qaq [ints .u8 (key),#[.bool has],#[.int .i64 num],ints .u8 (chain),ints .u8 (hash),#[.bool begins],ints .u8 (sk),ints .u8 (pk),ints .u8 (peer)] [#[.int .i64 2]] [ints .u8 (mine),ints .u8 (theirs)] 195 (by rw [Qab,Qab,Qab,Qab,Qab,Qab,Qab,Qab,Qab]; simp only [qS,cat,(izT hcl),(izT hhl),(izT hkl),(izT hpel),(izT hpkl),(izT hskl)]; rfl) 0 _ rfl) kj) ?_
  refine sg 3 kj <| sgN hK3 <| wp_ret ?_
  exact (show bodyPost _ _ _ .ret _ _ from ret1 (.bool true) rfl (Qa4 kj) ⟨rfl,(zbg w)⟩)
set_option maxRecDepth 100000 in
theorem agree_0 (g : Nat) (key chain hash sk pk peer mine theirs:List Int) (has begins:Bool) (num:Int) (xs ps k1 c1 k2 c2:List Int) (tc tq th tr:TypeId) (w:World) (hkl:key.length=32) (hcl:chain.length=32) (hhl:hash.length=32) (hskl:sk.length=32) (hpkl:pk.length=32) (hpel:peer.length=32) (hmil:mine.length=32) (hthl:theirs.length=32) (hcb:Qaf chain) (hhb:Qaf hash) (hskb:Qaf sk) (hpkb:Qaf pk) (hpeb:Qaf peer) (hmib:Qaf mine) (hthb:Qaf theirs) (hxl:xs.length=32) (hxb:Qaf xs) (hpl:ps.length=32) (hpb:Qaf ps) (h0:(agN xs ps==0)=false) (h1:(agN sk peer==0)=false)
    (ec1:c1=twA (hmac chain (Qav (agN xs ps)))) (ek1:k1=twB (hmac chain (Qav (agN xs ps)))) (ec2:c2=twA (hmac c1 (Qav (agN sk peer)))) (ek2:k2=twB (hmac c1 (Qav (agN sk peer)))) (hT:Tabs tc tq th tr w) (hnc:1≠g) (hnq:0≠g) (hnh:2≠g) (hnr:3≠g) (hg:w.heap[g]? = some (.cells (HR key has num chain hash begins sk pk peer 0 mine theirs) 76)) :
    Calls Tryz.prog 47 #[.pointer (some ⟨g,0,none⟩),.agg (cat [ints .u8 xs,ints .u8 ps])] w (fun e W=>e=.returned .nilIface∧ExtB g w W∧W.heap[g]? = some (.cells (HR k2 true 0 c2 hash begins sk pk peer 0 mine theirs) 76)):=by
  have hk1l:k1.length=32:=by rw [ek1]; exact QaN _
  have hc1l:c1.length=32:=by rw [ec1]; exact QaJ _
  have hc1b:Qaf c1:=by rw [ec1]; exact QdK _
  have hk2l:k2.length=32:=by rw [ek2]; exact QaN _
  have hc2l:c2.length=32:=by rw [ec2]; exact QaJ _
  have hc4:=hT.c
  have hq4:=hT.q
  have hh4:=hT.h
  have hr4:=hT.r
  refine enter 59 [(0,.pointer (some ⟨g,0,none⟩)),(1,.agg (cat [ints .u8 (xs),ints .u8 (ps)]))] Tryz.func47 rfl rfl kj rfl <| sgC fun K6 hK6=>Qak (cat [ints .u8 (xs),ints .u8 (ps)]) 33 3 rfl kj kj fun g7 W1 l7 e1 r7_1=>?_
  have x1:=zbk (zbg w) e1
  have b7:=qT (zbg w).size l7
  refine sg 1 kj <| sgN hK6 <| wp_seq_k fun K8 hK8=>QbV 13 [⟨none,[(3,none)]⟩,⟨none,[(0,none)]⟩,⟨none,[(11,some 1)]⟩,⟨none,[(12,some 2)]⟩,⟨none,[(13,some 3)]⟩,⟨none,[(14,some 4)]⟩,⟨none,[(0,none)]⟩,⟨none,[(16,some 6)]⟩,⟨none,[(17,some 7)]⟩,⟨none,[(18,some 8)]⟩,⟨none,[(15,some 5),(19,some 9)]⟩,⟨none,[(10,some 0),(20,some 10)]⟩,⟨none,[]⟩] [12] kj kj kj fun F hF=>Qax (.agg (cat [ints .u8 (xs),ints .u8 (ps)])) kj kj (fun W hR=>(Qae 33 _ g7 33 _ _ (Qaa (Qaa r7_1 (Qah _)) hR) rfl kj kj (isz (n:=64) kj (by rw [Qab,Qab]; simp only [qS,cat,(izT hpl),(izT hxl)]; rfl)))) ?_
  refine Qal (.pointer (some ⟨g,0,none⟩)) kj kj (fun _=>kj) <| Qal (.pointer (some ⟨g,0,none⟩)) kj kj (fun _=>kj) <| Qal (.pointer (some ⟨g,99,none⟩)) kj kj (fun _=>kj) <| Qal (.pointer (some ⟨g,99,none⟩)) kj kj (fun _=>kj) ?_
  have r1_1:=(Qaa hg e1)
  refine Qax (.agg (ints .u8 (sk))) kj kj (fun W hR=>(Qan 23 _ g 99 76 _ _ _ (Qaa (Qaa r1_1 (Qah _)) hR) rfl kj (Qaq [ints .u8 (key),#[.bool has],#[.int .i64 num],ints .u8 (chain),ints .u8 (hash),#[.bool begins]] [ints .u8 (sk)] [ints .u8 (pk),ints .u8 (peer),#[.int .i64 0],ints .u8 (mine),ints .u8 (theirs)] 99 (by rw [Qab,Qab,Qab,Qab,Qab,Qab]; simp only [qS,cat,(izT hcl),(izT hhl),(izT hkl)]; rfl)) kj (isz (n:=32) kj (izT hskl)))) ?_
  refine Qal (.pointer (some ⟨g,0,none⟩)) kj kj (fun _=>kj) <| Qal (.pointer (some ⟨g,0,none⟩)) kj kj (fun _=>kj) <| Qal (.pointer (some ⟨g,163,none⟩)) kj kj (fun _=>kj) <| Qax (.agg (ints .u8 (peer))) kj kj (fun W hR=>(Qan 23 _ g 163 76 _ _ _ (Qaa (Qaa r1_1 (Qah _)) hR) rfl kj (Qaq [ints .u8 (key),#[.bool has],#[.int .i64 num],ints .u8 (chain),ints .u8 (hash),#[.bool begins],ints .u8 (sk),ints .u8 (pk)] [ints .u8 (peer)] [#[.int .i64 0],ints .u8 (mine),ints .u8 (theirs)] 163 (by rw [Qab,Qab,Qab,Qab,Qab,Qab,Qab,Qab]; simp only [qS,cat,(izT hcl),(izT hhl),(izT hkl),(izT hpkl),(izT hskl)]; rfl)) kj (isz (n:=32) kj (izT hpel)))) ?_
  refine Qal (.agg (cat [ints .u8 (sk),ints .u8 (peer)])) kj kj (fun W=>(Qbk 33 _ (.agg (cat [ints .u8 (zaJ 32 0),ints .u8 (zaJ 32 0)])) #[(0,32),(32,32)] [(0,32,.agg (ints .u8 (sk)),ints .u8 (sk)),(1,32,.agg (ints .u8 (peer)),ints .u8 (peer))] rfl kj ⟨kj,rfl,(izT hskl),kj,rfl,(izT hpel),trivial⟩ kj kj kj kj)) <| Qal (.agg (cat [ints .u8 (xs),ints .u8 (ps),ints .u8 (sk),ints .u8 (peer)])) kj kj (fun W=>(Qhn (QeP 130 _ (.agg (cat [ints .u8 (zaJ 32 0),ints .u8 (zaJ 32 0),ints .u8 (zaJ 32 0),ints .u8 (zaJ 32 0)])) 2 64 33 [(0,64,.agg (cat [ints .u8 (xs),ints .u8 (ps)]),cat [ints .u8 (xs),ints .u8 (ps)]),(1,64,.agg (cat [ints .u8 (sk),ints .u8 (peer)]),cat [ints .u8 (sk),ints .u8 (peer)])] rfl kj ⟨kj,rfl,(by rw [Qab,Qab]; simp only [qS,cat,(izT hpl),(izT hxl)]; rfl),kj,rfl,(by rw [Qab,Qab]; simp only [qS,cat,(izT hpel),(izT hskl)]; rfl),trivial⟩ kj kj kj kj))) ?_
  refine Qcy (cat [ints .u8 (zaJ 32 0),ints .u8 (zaJ 32 0),ints .u8 (zaJ 32 0),ints .u8 (zaJ 32 0)]) 130 kj (qR _) kj (fun _=>kj) <| QaH (hF _ kj fun W2 e2=>?_)
  simp only [fins,up,zap,zaq,zar,zas,zat,zau]
  intro g9 l9 r9_2 n9
  clear hF
  refine Qai g9 _ (cat [ints .u8 (xs),ints .u8 (ps),ints .u8 (sk),ints .u8 (peer)]) 130 r9_2 rfl kj (Qag 130 _ _ g9 130 _ _ r9_2 rfl kj kj (isz (n:=128) kj (by rw [Qab,Qab,Qab,Qab]; simp only [qS,cat,(izT hpel),(izT hpl),(izT hskl),(izT hxl)]; rfl)) (eqsz (n:=128) (by rw [Qab,Qab,Qab,Qab]; simp only [qS,cat,(izT (qZ (n:=32)))]; rfl) (by rw [Qab,Qab,Qab,Qab]; simp only [qS,cat,(izT hpel),(izT hpl),(izT hskl),(izT hxl)]; rfl)) (Qch _ (by intro a ha; simp only [zaj,zaK,or_false] at ha; rcases ha with rfl | rfl | rfl | rfl; exact (ints_one _ _); exact (ints_one _ _); exact (ints_one _ _); exact (ints_one _ _)))) fun W3 p3 r9_3=>?_
  have x3:=zbj p3 (zbk x1 e2) (qT x1.size l9)
  refine sgN hK8 <| wp_seq_k fun K10 hK10=>sgC fun K11 hK11=>sg 3 kj ?_
  have r1_3:=(rpn p3 r1_1 e2 l9)
  refine Qac (.int .i64 0) 25 rfl kj (Qaj 74 _ g 195 76 _ (.int .i64 0) _ r1_3 rfl kj (Qaq [ints .u8 (key),#[.bool has],#[.int .i64 num],ints .u8 (chain),ints .u8 (hash),#[.bool begins],ints .u8 (sk),ints .u8 (pk),ints .u8 (peer)] [#[.int .i64 0]] [ints .u8 (mine),ints .u8 (theirs)] 195 (by rw [Qab,Qab,Qab,Qab,Qab,Qab,Qab,Qab,Qab]; simp only [qS,cat,(izT hcl),(izT hhl),(izT hkl),(izT hpel),(izT hpkl),(izT hskl)]; rfl) 0 _ rfl) kj) ?_
  refine sg 1 kj <| sgN hK11 <| cond_false kj <| wp_skip <| hK10 _ _ <| wp_seq_k fun K12 hK12=>sgC fun K13 hK13=>Qac (.agg (cat [ints .u8 (xs),ints .u8 (ps),ints .u8 (sk),ints .u8 (peer)])) 38 rfl kj (Qae 130 _ g9 130 _ _ r9_3 rfl kj kj (isz (n:=128) kj (by rw [Qab,Qab,Qab,Qab]; simp only [qS,cat,(izT hpel),(izT hpl),(izT hskl),(izT hxl)]; rfl))) ?_
  refine sg 1 kj <| sgN hK13 <| wp_block <| wp_loop_rounds 3 ?_
  show zbe _ _ (Exit.then (zbf _ _ _ 2) _) _ _
  refine sgB kj <| sgT kj <| wp_seq_k fun K16 hK16=>wp_block <| sgC fun K17 hK17=>Qac (.agg (cat [ints .u8 (xs),ints .u8 (ps)])) 41 rfl kj (Qdj 130 _ _ [] [ints .u8 (xs),ints .u8 (ps)] [ints .u8 (sk),ints .u8 (peer)] 0 2 64 0 33 rfl kj kj kj (by decide) rfl rfl (by rw [Qab,Qab]; simp only [qS,cat,(izT hpl),(izT hxl)]; rfl) kj kj) ?_
  refine Qak (cat [ints .u8 (zaJ 32 0),ints .u8 (zaJ 32 0)]) 33 7 rfl kj kj fun g18 W4 l18 e4 r18_4=>Qai g18 _ (cat [ints .u8 (xs),ints .u8 (ps)]) 33 r18_4 rfl kj (Qag 33 _ _ g18 33 _ _ r18_4 rfl kj kj (isz (n:=64) kj (by rw [Qab,Qab]; simp only [qS,cat,(izT hpl),(izT hxl)]; rfl)) (eqsz (n:=64) (by rw [Qab,Qab]; simp only [qS,cat,(izT (qZ (n:=32)))]; rfl) (by rw [Qab,Qab]; simp only [qS,cat,(izT hpl),(izT hxl)]; rfl)) (Qch _ (by intro a ha; simp only [zaj,zaK,or_false] at ha; rcases ha with rfl | rfl; exact (ints_one _ _); exact (ints_one _ _)))) fun W5 p5 r18_5=>?_
  refine sgN hK17 <| sgC fun K19 hK19=>sg 1 kj <| Qac (.agg (ints .u8 (xs))) 44 rfl kj (Qan 23 _ g18 0 33 _ _ _ r18_5 rfl kj (Qaq [] [ints .u8 (xs)] [ints .u8 (ps)] 0 kj) kj (isz (n:=32) kj (izT hxl))) <| sg 1 kj <| Qac (.agg (ints .u8 (ps))) 46 rfl kj (Qan 23 _ g18 32 33 _ _ _ r18_5 rfl kj (Qaq [ints .u8 (xs)] [ints .u8 (ps)] [] 32 (izT hxl)) kj (isz (n:=32) kj (izT hpl))) <| Qas (.tuple #[.agg (ints .u8 (Qav (agN xs ps))),.nilIface]) 73 #[.agg (ints .u8 (xs)),.agg (ints .u8 (ps))] 47 rfl kj kj (Field.agree_0 xs ps hxl hxb hpl hpb h0 _) fun W6 e6=>?_
  have x6:=zbk (zbj p5 (zbk x3 e4) (qT x3.size l18)) e6
  refine sg 3 kj <| Qak (ints .u8 (zaJ 32 0)) 23 8 rfl kj kj fun g20 W7 l20 e7 r20_7=>Qai g20 _ (ints .u8 (Qav (agN xs ps))) 23 r20_7 rfl kj (Qag 23 _ _ g20 23 _ _ r20_7 rfl kj kj (isz (n:=32) kj (izT (QaE _))) (eqsz (n:=32) (izT (qZ (n:=32))) (izT (QaE _))) (ints_one _ _)) fun W8 p8 r20_8=>sg 1 kj <| sgN hK19 <| wp_seq_k fun K21 hK21=>sgB kj <| cond_false kj <| wp_skip <| hK21 _ _ ?_
  refine QaQ 4 [⟨none,[(0,none)]⟩,⟨none,[(53,some 0)]⟩,⟨none,[(54,some 1)]⟩,⟨none,[(8,none)]⟩] kj kj fun F hF=>Qal (.pointer (some ⟨g,0,none⟩)) kj kj (fun _=>kj) <| Qal (.pointer (some ⟨g,0,none⟩)) kj kj (fun _=>kj) <| Qal (.pointer (some ⟨g,0,none⟩)) kj kj (fun _=>kj) <| Qal (.slice (some ⟨g20,0,none⟩) 32 32) kj kj (fun _=>kj) <| QaH (hF _ kj fun W9 e9=>?_)
  simp only [ups,up,zbl,zap,zaq,zar,zas,zat,zau]
  clear hF
  have xb9:=zbm (ExtB.refl g w) (zbk (zbj p8 (zbk x6 e7) (qT x6.size l20)) e9)
  have r4_1:=(Qaa hc4 e1)
  have r4_3:=(rpn p3 r4_1 e2 l9)
  have r4_6:=(Qaa (rpn p5 r4_3 e4 l18) e6)
  have r4_9:=(Qaa (rpn p8 r4_6 e7 l20) e9)
  have r5_1:=(Qaa hq4 e1)
  have r5_3:=(rpn p3 r5_1 e2 l9)
  have r5_6:=(Qaa (rpn p5 r5_3 e4 l18) e6)
  have r5_9:=(Qaa (rpn p8 r5_6 e7 l20) e9)
  have r1_6:=(Qaa (rpn p5 r1_3 e4 l18) e6)
  have r20_9:=(Qaa r20_8 e9)
  refine Qaw (fun v W'=>v=.tuple #[]∧ExtB g W9 W'∧W'.heap[g]? = some (.cells (HR k1 true 0 c1 hash begins sk pk peer 0 mine theirs) 76)) 74 #[.pointer (some ⟨g,0,none⟩),.slice (some ⟨g20,0,none⟩) 32 32] 57 rfl kj kj ((QeB g key chain hash has num (Qav (agN xs ps)) _ _ tc tq _ hkl hcl hhl hcb (Field.bytesOf_areBytes _) (by rw [QaE]; decide) r4_9 r5_9 (Qaa (rpn p8 r1_6 e7 l20) e9) (Qb8 (xs:=Qav (agN xs ps)) (n:=32) (QaE _) r20_9 (Qa7 r20_9) (show 32≤maxLen from by decide))).mono (by intro e w' h; exact ⟨_,h.1,rfl,h.2.1,(by rw [ek1,ec1]; exact h.2.2)⟩)) fun v W10 h23=>?_
  obtain ⟨rfl,q10,r1_10⟩:=h23
  have x10:=ExtB.trans xb9 q10
  refine Qaz <| hK16 _ _ <| sgA kj ?_
  show zbf _ _ _ 2 _ _
  show zbe _ _ (Exit.then (zbf _ _ _ 1) _) _ _
  refine sgB kj <| sgT kj <| wp_seq_k fun K26 hK26=>wp_block <| sgC fun K27 hK27=>Qac (.agg (cat [ints .u8 (sk),ints .u8 (peer)])) 41 rfl kj (Qdj 130 _ _ [ints .u8 (xs),ints .u8 (ps)] [ints .u8 (sk),ints .u8 (peer)] [] 1 2 64 64 33 rfl kj kj kj (by decide) rfl (by rw [Qab,Qab]; simp only [qS,cat,(izT hpl),(izT hxl)]; rfl) (by rw [Qab,Qab]; simp only [qS,cat,(izT hpel),(izT hskl)]; rfl) kj kj) ?_
  refine Qak (cat [ints .u8 (zaJ 32 0),ints .u8 (zaJ 32 0)]) 33 7 rfl kj kj fun g28 W11 l28 e11 r28_11=>Qai g28 _ (cat [ints .u8 (sk),ints .u8 (peer)]) 33 r28_11 rfl kj (Qag 33 _ _ g28 33 _ _ r28_11 rfl kj kj (isz (n:=64) kj (by rw [Qab,Qab]; simp only [qS,cat,(izT hpel),(izT hskl)]; rfl)) (eqsz (n:=64) (by rw [Qab,Qab]; simp only [qS,cat,(izT (qZ (n:=32)))]; rfl) (by rw [Qab,Qab]; simp only [qS,cat,(izT hpel),(izT hskl)]; rfl)) (Qch _ (by intro a ha; simp only [zaj,zaK,or_false] at ha; rcases ha with rfl | rfl; exact (ints_one _ _); exact (ints_one _ _)))) fun W12 p12 r28_12=>?_
  refine sgN hK27 <| sgC fun K29 hK29=>sg 1 kj <| Qac (.agg (ints .u8 (sk))) 44 rfl kj (Qan 23 _ g28 0 33 _ _ _ r28_12 rfl kj (Qaq [] [ints .u8 (sk)] [ints .u8 (peer)] 0 kj) kj (isz (n:=32) kj (izT hskl))) <| sg 1 kj <| Qac (.agg (ints .u8 (peer))) 46 rfl kj (Qan 23 _ g28 32 33 _ _ _ r28_12 rfl kj (Qaq [ints .u8 (sk)] [ints .u8 (peer)] [] 32 (izT hskl)) kj (isz (n:=32) kj (izT hpel))) <| Qas (.tuple #[.agg (ints .u8 (Qav (agN sk peer))),.nilIface]) 73 #[.agg (ints .u8 (sk)),.agg (ints .u8 (peer))] 47 rfl kj kj (Field.agree_0 sk peer hskl hskb hpel hpeb h1 _) fun W13 e13=>?_
  have x13:=zbm (ExtB.putsN (zbm x10 e11) p12 (qT x10.size l28)) e13
  refine sg 3 kj <| Qak (ints .u8 (zaJ 32 0)) 23 8 rfl kj kj fun g30 W14 l30 e14 r30_14=>Qai g30 _ (ints .u8 (Qav (agN sk peer))) 23 r30_14 rfl kj (Qag 23 _ _ g30 23 _ _ r30_14 rfl kj kj (isz (n:=32) kj (izT (QaE _))) (eqsz (n:=32) (izT (qZ (n:=32))) (izT (QaE _))) (ints_one _ _)) fun W15 p15 r30_15=>sg 1 kj <| sgN hK29 <| wp_seq_k fun K31 hK31=>sgB kj <| cond_false kj <| wp_skip <| hK31 _ _ ?_
  refine QaQ 4 [⟨none,[(0,none)]⟩,⟨none,[(53,some 0)]⟩,⟨none,[(54,some 1)]⟩,⟨none,[(8,none)]⟩] kj kj fun F hF=>Qal (.pointer (some ⟨g,0,none⟩)) kj kj (fun _=>kj) <| Qal (.pointer (some ⟨g,0,none⟩)) kj kj (fun _=>kj) <| Qal (.pointer (some ⟨g,0,none⟩)) kj kj (fun _=>kj) <| Qal (.slice (some ⟨g30,0,none⟩) 32 32) kj kj (fun _=>kj) <| QaH (hF _ kj fun W16 e16=>?_)
  simp only [ups,up,zbl,zap,zaq,zar,zas,zat,zau]
  clear hF
  have r4_10:=(ExtB.row q10 r4_9 hnc)
  have r4_13:=(Qaa (rpn p12 r4_10 e11 l28) e13)
  have r5_10:=(ExtB.row q10 r5_9 hnq)
  have r5_13:=(Qaa (rpn p12 r5_10 e11 l28) e13)
  have r1_13:=(Qaa (rpn p12 r1_10 e11 l28) e13)
  have r30_16:=(Qaa r30_15 e16)
  refine Qaw (fun v W'=>v=.tuple #[]∧ExtB g W16 W'∧W'.heap[g]? = some (.cells (HR k2 true 0 c2 hash begins sk pk peer 0 mine theirs) 76)) 74 #[.pointer (some ⟨g,0,none⟩),.slice (some ⟨g30,0,none⟩) 32 32] 57 rfl kj kj ((QeB g k1 c1 hash true 0 (Qav (agN sk peer)) _ _ tc tq _ hk1l hc1l hhl hc1b (Field.bytesOf_areBytes _) (by rw [QaE]; decide) (Qaa (rpn p15 r4_13 e14 l30) e16) (Qaa (rpn p15 r5_13 e14 l30) e16) (Qaa (rpn p15 r1_13 e14 l30) e16) (Qb8 (xs:=Qav (agN sk peer)) (n:=32) (QaE _) r30_16 (Qa7 r30_16) (show 32≤maxLen from by decide))).mono (by intro e w' h; exact ⟨_,h.1,rfl,h.2.1,(by rw [ek2,ec2]; exact h.2.2)⟩)) fun v W17 h33=>?_
  obtain ⟨rfl,q17,r1_17⟩:=h33
  refine Qaz <| hK26 _ _ <| sgA kj ?_
  show zbf _ _ _ 1 _ _
  show zbe _ _ (Exit.then (zbf _ _ _ 0) _) _ _
  refine sgB kj <| wp_seq_k fun K35 hK35=>cond_false kj <| wp_exit <| hK12 _ _ <| sgB kj <| wp_ret ?_
  exact (show bodyPost _ _ _ .ret _ _ from ret1 (.nilIface) rfl (Qa4 kj) ⟨rfl,(ExtB.trans (zbm (ExtB.putsN (zbm x13 e14) p15 (qT x13.size l30)) e16) q17),r1_17⟩)
set_option maxRecDepth 100000 in
theorem QmI (g : Nat) (key chain hash sk pk peer mine theirs:List Int) (has begins:Bool) (num:Int) (xs ps k1 c1 k2 c2:List Int) (tc tq th tr:TypeId) (w:World) (hkl:key.length=32) (hcl:chain.length=32) (hhl:hash.length=32) (hskl:sk.length=32) (hpkl:pk.length=32) (hpel:peer.length=32) (hmil:mine.length=32) (hthl:theirs.length=32) (hcb:Qaf chain) (hhb:Qaf hash) (hskb:Qaf sk) (hpkb:Qaf pk) (hpeb:Qaf peer) (hmib:Qaf mine) (hthb:Qaf theirs) (hxl:xs.length=32) (hxb:Qaf xs) (hpl:ps.length=32) (hpb:Qaf ps) (h0:(agN xs ps==0)=false) (h1:(agN mine theirs==0)=false)
    (ec1:c1=twA (hmac chain (Qav (agN mine theirs)))) (ek1:k1=twB (hmac chain (Qav (agN mine theirs)))) (ec2:c2=twA (hmac c1 (Qav (agN xs ps)))) (ek2:k2=twB (hmac c1 (Qav (agN xs ps)))) (hT:Tabs tc tq th tr w) (hnc:1≠g) (hnq:0≠g) (hnh:2≠g) (hnr:3≠g) (hg:w.heap[g]? = some (.cells (HR key has num chain hash begins sk pk peer 1 mine theirs) 76)) :
    Calls Tryz.prog 47 #[.pointer (some ⟨g,0,none⟩),.agg (cat [ints .u8 xs,ints .u8 ps])] w (fun e W=>e=.returned .nilIface∧ExtB g w W∧W.heap[g]? = some (.cells (HR k2 true 0 c2 hash begins sk pk peer 1 mine theirs) 76)):=by
  have hk1l:k1.length=32:=by rw [ek1]; exact QaN _
  have hc1l:c1.length=32:=by rw [ec1]; exact QaJ _
  have hc1b:Qaf c1:=by rw [ec1]; exact QdK _
  have hk2l:k2.length=32:=by rw [ek2]; exact QaN _
  have hc2l:c2.length=32:=by rw [ec2]; exact QaJ _
  have hc4:=hT.c
  have hq4:=hT.q
  have hh4:=hT.h
  have hr4:=hT.r
  refine enter 59 [(0,.pointer (some ⟨g,0,none⟩)),(1,.agg (cat [ints .u8 (xs),ints .u8 (ps)]))] Tryz.func47 rfl rfl kj rfl <| sgC fun K6 hK6=>Qak (cat [ints .u8 (xs),ints .u8 (ps)]) 33 3 rfl kj kj fun g7 W1 l7 e1 r7_1=>?_
  have x1:=zbk (zbg w) e1
  have b7:=qT (zbg w).size l7
  refine sg 1 kj <| sgN hK6 <| wp_seq_k fun K8 hK8=>QbV 13 [⟨none,[(3,none)]⟩,⟨none,[(0,none)]⟩,⟨none,[(11,some 1)]⟩,⟨none,[(12,some 2)]⟩,⟨none,[(13,some 3)]⟩,⟨none,[(14,some 4)]⟩,⟨none,[(0,none)]⟩,⟨none,[(16,some 6)]⟩,⟨none,[(17,some 7)]⟩,⟨none,[(18,some 8)]⟩,⟨none,[(15,some 5),(19,some 9)]⟩,⟨none,[(10,some 0),(20,some 10)]⟩,⟨none,[]⟩] [12] kj kj kj fun F hF=>Qax (.agg (cat [ints .u8 (xs),ints .u8 (ps)])) kj kj (fun W hR=>(Qae 33 _ g7 33 _ _ (Qaa (Qaa r7_1 (Qah _)) hR) rfl kj kj (isz (n:=64) kj (by rw [Qab,Qab]; simp only [qS,cat,(izT hpl),(izT hxl)]; rfl)))) ?_
  refine Qal (.pointer (some ⟨g,0,none⟩)) kj kj (fun _=>kj) <| Qal (.pointer (some ⟨g,0,none⟩)) kj kj (fun _=>kj) <| Qal (.pointer (some ⟨g,99,none⟩)) kj kj (fun _=>kj) <| Qal (.pointer (some ⟨g,99,none⟩)) kj kj (fun _=>kj) ?_
  have r1_1:=(Qaa hg e1)
  refine Qax (.agg (ints .u8 (sk))) kj kj (fun W hR=>(Qan 23 _ g 99 76 _ _ _ (Qaa (Qaa r1_1 (Qah _)) hR) rfl kj (Qaq [ints .u8 (key),#[.bool has],#[.int .i64 num],ints .u8 (chain),ints .u8 (hash),#[.bool begins]] [ints .u8 (sk)] [ints .u8 (pk),ints .u8 (peer),#[.int .i64 1],ints .u8 (mine),ints .u8 (theirs)] 99 (by rw [Qab,Qab,Qab,Qab,Qab,Qab]; simp only [qS,cat,(izT hcl),(izT hhl),(izT hkl)]; rfl)) kj (isz (n:=32) kj (izT hskl)))) ?_
  refine Qal (.pointer (some ⟨g,0,none⟩)) kj kj (fun _=>kj) <| Qal (.pointer (some ⟨g,0,none⟩)) kj kj (fun _=>kj) <| Qal (.pointer (some ⟨g,163,none⟩)) kj kj (fun _=>kj) <| Qax (.agg (ints .u8 (peer))) kj kj (fun W hR=>(Qan 23 _ g 163 76 _ _ _ (Qaa (Qaa r1_1 (Qah _)) hR) rfl kj (Qaq [ints .u8 (key),#[.bool has],#[.int .i64 num],ints .u8 (chain),ints .u8 (hash),#[.bool begins],ints .u8 (sk),ints .u8 (pk)] [ints .u8 (peer)] [#[.int .i64 1],ints .u8 (mine),ints .u8 (theirs)] 163 (by rw [Qab,Qab,Qab,Qab,Qab,Qab,Qab,Qab]; simp only [qS,cat,(izT hcl),(izT hhl),(izT hkl),(izT hpkl),(izT hskl)]; rfl)) kj (isz (n:=32) kj (izT hpel)))) ?_
  refine Qal (.agg (cat [ints .u8 (sk),ints .u8 (peer)])) kj kj (fun W=>(Qbk 33 _ (.agg (cat [ints .u8 (zaJ 32 0),ints .u8 (zaJ 32 0)])) #[(0,32),(32,32)] [(0,32,.agg (ints .u8 (sk)),ints .u8 (sk)),(1,32,.agg (ints .u8 (peer)),ints .u8 (peer))] rfl kj ⟨kj,rfl,(izT hskl),kj,rfl,(izT hpel),trivial⟩ kj kj kj kj)) <| Qal (.agg (cat [ints .u8 (xs),ints .u8 (ps),ints .u8 (sk),ints .u8 (peer)])) kj kj (fun W=>(Qhn (QeP 130 _ (.agg (cat [ints .u8 (zaJ 32 0),ints .u8 (zaJ 32 0),ints .u8 (zaJ 32 0),ints .u8 (zaJ 32 0)])) 2 64 33 [(0,64,.agg (cat [ints .u8 (xs),ints .u8 (ps)]),cat [ints .u8 (xs),ints .u8 (ps)]),(1,64,.agg (cat [ints .u8 (sk),ints .u8 (peer)]),cat [ints .u8 (sk),ints .u8 (peer)])] rfl kj ⟨kj,rfl,(by rw [Qab,Qab]; simp only [qS,cat,(izT hpl),(izT hxl)]; rfl),kj,rfl,(by rw [Qab,Qab]; simp only [qS,cat,(izT hpel),(izT hskl)]; rfl),trivial⟩ kj kj kj kj))) ?_
  refine Qcy (cat [ints .u8 (zaJ 32 0),ints .u8 (zaJ 32 0),ints .u8 (zaJ 32 0),ints .u8 (zaJ 32 0)]) 130 kj (qR _) kj (fun _=>kj) <| QaH (hF _ kj fun W2 e2=>?_)
  simp only [fins,up,zap,zaq,zar,zas,zat,zau]
  intro g9 l9 r9_2 n9
  have b9:=qT x1.size l9
  clear hF
  refine Qai g9 _ (cat [ints .u8 (xs),ints .u8 (ps),ints .u8 (sk),ints .u8 (peer)]) 130 r9_2 rfl kj (Qag 130 _ _ g9 130 _ _ r9_2 rfl kj kj (isz (n:=128) kj (by rw [Qab,Qab,Qab,Qab]; simp only [qS,cat,(izT hpel),(izT hpl),(izT hskl),(izT hxl)]; rfl)) (eqsz (n:=128) (by rw [Qab,Qab,Qab,Qab]; simp only [qS,cat,(izT (qZ (n:=32)))]; rfl) (by rw [Qab,Qab,Qab,Qab]; simp only [qS,cat,(izT hpel),(izT hpl),(izT hskl),(izT hxl)]; rfl)) (Qch _ (by intro a ha; simp only [zaj,zaK,or_false] at ha; rcases ha with rfl | rfl | rfl | rfl; exact (ints_one _ _); exact (ints_one _ _); exact (ints_one _ _); exact (ints_one _ _)))) fun W3 p3 r9_3=>?_
  refine sgN hK8 <| wp_seq_k fun K10 hK10=>sgC fun K11 hK11=>sg 3 kj ?_
  have r1_3:=(rpn p3 r1_1 e2 l9)
  refine Qac (.int .i64 1) 25 rfl kj (Qaj 74 _ g 195 76 _ (.int .i64 1) _ r1_3 rfl kj (Qaq [ints .u8 (key),#[.bool has],#[.int .i64 num],ints .u8 (chain),ints .u8 (hash),#[.bool begins],ints .u8 (sk),ints .u8 (pk),ints .u8 (peer)] [#[.int .i64 1]] [ints .u8 (mine),ints .u8 (theirs)] 195 (by rw [Qab,Qab,Qab,Qab,Qab,Qab,Qab,Qab,Qab]; simp only [qS,cat,(izT hcl),(izT hhl),(izT hkl),(izT hpel),(izT hpkl),(izT hskl)]; rfl) 0 _ rfl) kj) ?_
  refine sg 1 kj <| sgN hK11 <| cond_true kj <| QaQ 11 [⟨none,[(0,none)]⟩,⟨none,[(27,some 0)]⟩,⟨none,[(28,some 1)]⟩,⟨none,[(29,some 2)]⟩,⟨none,[(0,none)]⟩,⟨none,[(31,some 4)]⟩,⟨none,[(32,some 5)]⟩,⟨none,[(33,some 6)]⟩,⟨none,[(30,some 3),(34,some 7)]⟩,⟨none,[(3,none)]⟩,⟨none,[(35,some 8),(36,some 9)]⟩] kj kj fun F hF=>Qal (.pointer (some ⟨g,0,none⟩)) kj kj (fun _=>kj) <| Qal (.pointer (some ⟨g,0,none⟩)) kj kj (fun _=>kj) <| Qal (.pointer (some ⟨g,196,none⟩)) kj kj (fun _=>kj) <| Qax (.agg (ints .u8 (mine))) kj kj (fun W hR=>(Qan 23 _ g 196 76 _ _ _ (Qaa (Qaa r1_3 (Qah _)) hR) rfl kj (Qaq [ints .u8 (key),#[.bool has],#[.int .i64 num],ints .u8 (chain),ints .u8 (hash),#[.bool begins],ints .u8 (sk),ints .u8 (pk),ints .u8 (peer),#[.int .i64 1]] [ints .u8 (mine)] [ints .u8 (theirs)] 196 (by (try unfold HR); rw [Qab,Qab,Qab,Qab,Qab,Qab,Qab,Qab,Qab,Qab]; simp only [qS,cat,(izT hcl),(izT hhl),(izT hkl),(izT hpel),(izT hpkl),(izT hskl)]; rfl)) kj (isz (n:=32) kj (izT hmil)))) ?_
  refine Qal (.pointer (some ⟨g,0,none⟩)) kj kj (fun _=>kj) <| Qal (.pointer (some ⟨g,0,none⟩)) kj kj (fun _=>kj) <| Qal (.pointer (some ⟨g,228,none⟩)) kj kj (fun _=>kj) <| Qax (.agg (ints .u8 (theirs))) kj kj (fun W hR=>(Qan 23 _ g 228 76 _ _ _ (Qaa (Qaa r1_3 (Qah _)) hR) rfl kj (Qaq [ints .u8 (key),#[.bool has],#[.int .i64 num],ints .u8 (chain),ints .u8 (hash),#[.bool begins],ints .u8 (sk),ints .u8 (pk),ints .u8 (peer),#[.int .i64 1],ints .u8 (mine)] [ints .u8 (theirs)] [] 228 (by (try unfold HR); rw [Qab,Qab,Qab,Qab,Qab,Qab,Qab,Qab,Qab,Qab,Qab]; simp only [qS,cat,(izT hcl),(izT hhl),(izT hkl),(izT hmil),(izT hpel),(izT hpkl),(izT hskl)]; rfl)) kj (isz (n:=32) kj (izT hthl)))) ?_
  refine Qal (.agg (cat [ints .u8 (mine),ints .u8 (theirs)])) kj kj (fun W=>(Qbk 33 _ (.agg (cat [ints .u8 (zaJ 32 0),ints .u8 (zaJ 32 0)])) #[(0,32),(32,32)] [(0,32,.agg (ints .u8 (mine)),ints .u8 (mine)),(1,32,.agg (ints .u8 (theirs)),ints .u8 (theirs))] rfl kj ⟨kj,rfl,(izT hmil),kj,rfl,(izT hthl),trivial⟩ kj kj kj kj)) <| Qax (.agg (cat [ints .u8 (xs),ints .u8 (ps)])) kj kj (fun W hR=>(Qae 33 _ g7 33 _ _ (Qaa (Qaa (rpn p3 r7_1 e2 l9) (Qah _)) hR) rfl kj kj (isz (n:=64) kj (by rw [Qab,Qab]; simp only [qS,cat,(izT hpl),(izT hxl)]; rfl)))) ?_
  refine Qal (.agg (cat [ints .u8 (mine),ints .u8 (theirs),ints .u8 (xs),ints .u8 (ps)])) kj kj (fun W=>(Qhn (QeP 130 _ (.agg (cat [ints .u8 (zaJ 32 0),ints .u8 (zaJ 32 0),ints .u8 (zaJ 32 0),ints .u8 (zaJ 32 0)])) 2 64 33 [(0,64,.agg (cat [ints .u8 (mine),ints .u8 (theirs)]),cat [ints .u8 (mine),ints .u8 (theirs)]),(1,64,.agg (cat [ints .u8 (xs),ints .u8 (ps)]),cat [ints .u8 (xs),ints .u8 (ps)])] rfl kj ⟨kj,rfl,(by rw [Qab,Qab]; simp only [qS,cat,(izT hmil),(izT hthl)]; rfl),kj,rfl,(by rw [Qab,Qab]; simp only [qS,cat,(izT hpl),(izT hxl)]; rfl),trivial⟩ kj kj kj kj))) ?_
  refine QaH (hF _ kj fun W4 e4=>?_)
  simp only [ups,up,zbl,zap,zaq,zar,zas,zat,zau]
  clear hF
  have r9_4:=(Qaa r9_3 e4)
  refine Qai g9 _ (cat [ints .u8 (mine),ints .u8 (theirs),ints .u8 (xs),ints .u8 (ps)]) 130 r9_4 rfl kj (Qag 130 _ _ g9 130 _ _ r9_4 rfl kj kj (isz (n:=128) kj (by rw [Qab,Qab,Qab,Qab]; simp only [qS,cat,(izT hmil),(izT hpl),(izT hthl),(izT hxl)]; rfl)) (eqsz (n:=128) (by rw [Qab,Qab,Qab,Qab]; simp only [qS,cat,(izT hpel),(izT hpl),(izT hskl),(izT hxl)]; rfl) (by rw [Qab,Qab,Qab,Qab]; simp only [qS,cat,(izT hmil),(izT hpl),(izT hthl),(izT hxl)]; rfl)) (Qch _ (by intro a ha; simp only [zaj,zaK,or_false] at ha; rcases ha with rfl | rfl | rfl | rfl; exact (ints_one _ _); exact (ints_one _ _); exact (ints_one _ _); exact (ints_one _ _)))) fun W5 p5 r9_5=>?_
  have x5:=zbj p5 (zbk (zbj p3 (zbk x1 e2) b9) e4) b9
  refine Qaz <| hK10 _ _ <| wp_seq_k fun K12 hK12=>sgC fun K13 hK13=>Qac (.agg (cat [ints .u8 (mine),ints .u8 (theirs),ints .u8 (xs),ints .u8 (ps)])) 38 rfl kj (Qae 130 _ g9 130 _ _ r9_5 rfl kj kj (isz (n:=128) kj (by rw [Qab,Qab,Qab,Qab]; simp only [qS,cat,(izT hmil),(izT hpl),(izT hthl),(izT hxl)]; rfl))) ?_
  refine sg 1 kj <| sgN hK13 <| wp_block <| wp_loop_rounds 3 ?_
  show zbe _ _ (Exit.then (zbf _ _ _ 2) _) _ _
  refine sgB kj <| sgT kj <| wp_seq_k fun K16 hK16=>wp_block <| sgC fun K17 hK17=>Qac (.agg (cat [ints .u8 (mine),ints .u8 (theirs)])) 41 rfl kj (Qdj 130 _ _ [] [ints .u8 (mine),ints .u8 (theirs)] [ints .u8 (xs),ints .u8 (ps)] 0 2 64 0 33 rfl kj kj kj (by decide) rfl rfl (by rw [Qab,Qab]; simp only [qS,cat,(izT hmil),(izT hthl)]; rfl) kj kj) ?_
  refine Qak (cat [ints .u8 (zaJ 32 0),ints .u8 (zaJ 32 0)]) 33 7 rfl kj kj fun g18 W6 l18 e6 r18_6=>Qai g18 _ (cat [ints .u8 (mine),ints .u8 (theirs)]) 33 r18_6 rfl kj (Qag 33 _ _ g18 33 _ _ r18_6 rfl kj kj (isz (n:=64) kj (by rw [Qab,Qab]; simp only [qS,cat,(izT hmil),(izT hthl)]; rfl)) (eqsz (n:=64) (by rw [Qab,Qab]; simp only [qS,cat,(izT (qZ (n:=32)))]; rfl) (by rw [Qab,Qab]; simp only [qS,cat,(izT hmil),(izT hthl)]; rfl)) (Qch _ (by intro a ha; simp only [zaj,zaK,or_false] at ha; rcases ha with rfl | rfl; exact (ints_one _ _); exact (ints_one _ _)))) fun W7 p7 r18_7=>?_
  refine sgN hK17 <| sgC fun K19 hK19=>sg 1 kj <| Qac (.agg (ints .u8 (mine))) 44 rfl kj (Qan 23 _ g18 0 33 _ _ _ r18_7 rfl kj (Qaq [] [ints .u8 (mine)] [ints .u8 (theirs)] 0 kj) kj (isz (n:=32) kj (izT hmil))) <| sg 1 kj <| Qac (.agg (ints .u8 (theirs))) 46 rfl kj (Qan 23 _ g18 32 33 _ _ _ r18_7 rfl kj (Qaq [ints .u8 (mine)] [ints .u8 (theirs)] [] 32 (izT hmil)) kj (isz (n:=32) kj (izT hthl))) <| Qas (.tuple #[.agg (ints .u8 (Qav (agN mine theirs))),.nilIface]) 73 #[.agg (ints .u8 (mine)),.agg (ints .u8 (theirs))] 47 rfl kj kj (Field.agree_0 mine theirs hmil hmib hthl hthb h1 _) fun W8 e8=>?_
  have x8:=zbk (zbj p7 (zbk x5 e6) (qT x5.size l18)) e8
  refine sg 3 kj <| Qak (ints .u8 (zaJ 32 0)) 23 8 rfl kj kj fun g20 W9 l20 e9 r20_9=>Qai g20 _ (ints .u8 (Qav (agN mine theirs))) 23 r20_9 rfl kj (Qag 23 _ _ g20 23 _ _ r20_9 rfl kj kj (isz (n:=32) kj (izT (QaE _))) (eqsz (n:=32) (izT (qZ (n:=32))) (izT (QaE _))) (ints_one _ _)) fun W10 p10 r20_10=>sg 1 kj <| sgN hK19 <| wp_seq_k fun K21 hK21=>sgB kj <| cond_false kj <| wp_skip <| hK21 _ _ ?_
  refine QaQ 4 [⟨none,[(0,none)]⟩,⟨none,[(53,some 0)]⟩,⟨none,[(54,some 1)]⟩,⟨none,[(8,none)]⟩] kj kj fun F hF=>Qal (.pointer (some ⟨g,0,none⟩)) kj kj (fun _=>kj) <| Qal (.pointer (some ⟨g,0,none⟩)) kj kj (fun _=>kj) <| Qal (.pointer (some ⟨g,0,none⟩)) kj kj (fun _=>kj) <| Qal (.slice (some ⟨g20,0,none⟩) 32 32) kj kj (fun _=>kj) <| QaH (hF _ kj fun W11 e11=>?_)
  simp only [ups,up,zbl,zap,zaq,zar,zas,zat,zau]
  clear hF
  have xb11:=zbm (ExtB.refl g w) (zbk (zbj p10 (zbk x8 e9) (qT x8.size l20)) e11)
  have r4_1:=(Qaa hc4 e1)
  have r4_5:=(zbi p5 (Qaa (rpn p3 r4_1 e2 l9) e4) (Qad r4_1 l9))
  have r4_8:=(Qaa (rpn p7 r4_5 e6 l18) e8)
  have r4_11:=(Qaa (rpn p10 r4_8 e9 l20) e11)
  have r5_1:=(Qaa hq4 e1)
  have r5_5:=(zbi p5 (Qaa (rpn p3 r5_1 e2 l9) e4) (Qad r5_1 l9))
  have r5_8:=(Qaa (rpn p7 r5_5 e6 l18) e8)
  have r5_11:=(Qaa (rpn p10 r5_8 e9 l20) e11)
  have r1_5:=(zbi p5 (Qaa r1_3 e4) (Qad r1_1 l9))
  have r1_8:=(Qaa (rpn p7 r1_5 e6 l18) e8)
  have r20_11:=(Qaa r20_10 e11)
  refine Qaw (fun v W'=>v=.tuple #[]∧ExtB g W11 W'∧W'.heap[g]? = some (.cells (HR k1 true 0 c1 hash begins sk pk peer 1 mine theirs) 76)) 74 #[.pointer (some ⟨g,0,none⟩),.slice (some ⟨g20,0,none⟩) 32 32] 57 rfl kj kj ((QeB g key chain hash has num (Qav (agN mine theirs)) _ _ tc tq _ hkl hcl hhl hcb (Field.bytesOf_areBytes _) (by rw [QaE]; decide) r4_11 r5_11 (Qaa (rpn p10 r1_8 e9 l20) e11) (Qb8 (xs:=Qav (agN mine theirs)) (n:=32) (QaE _) r20_11 (Qa7 r20_11) (show 32≤maxLen from by decide))).mono (by intro e w' h; exact ⟨_,h.1,rfl,h.2.1,(by rw [ek1,ec1]; exact h.2.2)⟩)) fun v W12 h23=>?_
  obtain ⟨rfl,q12,r1_12⟩:=h23
  have x12:=ExtB.trans xb11 q12
  refine Qaz <| hK16 _ _ <| sgA kj ?_
  show zbf _ _ _ 2 _ _
  show zbe _ _ (Exit.then (zbf _ _ _ 1) _) _ _
  refine sgB kj <| sgT kj <| wp_seq_k fun K26 hK26=>wp_block <| sgC fun K27 hK27=>Qac (.agg (cat [ints .u8 (xs),ints .u8 (ps)])) 41 rfl kj (Qdj 130 _ _ [ints .u8 (mine),ints .u8 (theirs)] [ints .u8 (xs),ints .u8 (ps)] [] 1 2 64 64 33 rfl kj kj kj (by decide) rfl (by rw [Qab,Qab]; simp only [qS,cat,(izT hmil),(izT hthl)]; rfl) (by rw [Qab,Qab]; simp only [qS,cat,(izT hpl),(izT hxl)]; rfl) kj kj) ?_
  refine Qak (cat [ints .u8 (zaJ 32 0),ints .u8 (zaJ 32 0)]) 33 7 rfl kj kj fun g28 W13 l28 e13 r28_13=>Qai g28 _ (cat [ints .u8 (xs),ints .u8 (ps)]) 33 r28_13 rfl kj (Qag 33 _ _ g28 33 _ _ r28_13 rfl kj kj (isz (n:=64) kj (by rw [Qab,Qab]; simp only [qS,cat,(izT hpl),(izT hxl)]; rfl)) (eqsz (n:=64) (by rw [Qab,Qab]; simp only [qS,cat,(izT (qZ (n:=32)))]; rfl) (by rw [Qab,Qab]; simp only [qS,cat,(izT hpl),(izT hxl)]; rfl)) (Qch _ (by intro a ha; simp only [zaj,zaK,or_false] at ha; rcases ha with rfl | rfl; exact (ints_one _ _); exact (ints_one _ _)))) fun W14 p14 r28_14=>?_
  refine sgN hK27 <| sgC fun K29 hK29=>sg 1 kj <| Qac (.agg (ints .u8 (xs))) 44 rfl kj (Qan 23 _ g28 0 33 _ _ _ r28_14 rfl kj (Qaq [] [ints .u8 (xs)] [ints .u8 (ps)] 0 kj) kj (isz (n:=32) kj (izT hxl))) <| sg 1 kj <| Qac (.agg (ints .u8 (ps))) 46 rfl kj (Qan 23 _ g28 32 33 _ _ _ r28_14 rfl kj (Qaq [ints .u8 (xs)] [ints .u8 (ps)] [] 32 (izT hxl)) kj (isz (n:=32) kj (izT hpl))) <| Qas (.tuple #[.agg (ints .u8 (Qav (agN xs ps))),.nilIface]) 73 #[.agg (ints .u8 (xs)),.agg (ints .u8 (ps))] 47 rfl kj kj (Field.agree_0 xs ps hxl hxb hpl hpb h0 _) fun W15 e15=>?_
  have x15:=zbm (ExtB.putsN (zbm x12 e13) p14 (qT x12.size l28)) e15
  refine sg 3 kj <| Qak (ints .u8 (zaJ 32 0)) 23 8 rfl kj kj fun g30 W16 l30 e16 r30_16=>Qai g30 _ (ints .u8 (Qav (agN xs ps))) 23 r30_16 rfl kj (Qag 23 _ _ g30 23 _ _ r30_16 rfl kj kj (isz (n:=32) kj (izT (QaE _))) (eqsz (n:=32) (izT (qZ (n:=32))) (izT (QaE _))) (ints_one _ _)) fun W17 p17 r30_17=>sg 1 kj <| sgN hK29 <| wp_seq_k fun K31 hK31=>sgB kj <| cond_false kj <| wp_skip <| hK31 _ _ ?_
  refine QaQ 4 [⟨none,[(0,none)]⟩,⟨none,[(53,some 0)]⟩,⟨none,[(54,some 1)]⟩,⟨none,[(8,none)]⟩] kj kj fun F hF=>Qal (.pointer (some ⟨g,0,none⟩)) kj kj (fun _=>kj) <| Qal (.pointer (some ⟨g,0,none⟩)) kj kj (fun _=>kj) <| Qal (.pointer (some ⟨g,0,none⟩)) kj kj (fun _=>kj) <| Qal (.slice (some ⟨g30,0,none⟩) 32 32) kj kj (fun _=>kj) <| QaH (hF _ kj fun W18 e18=>?_)
  simp only [ups,up,zbl,zap,zaq,zar,zas,zat,zau]
  clear hF
  have r4_12:=(ExtB.row q12 r4_11 hnc)
  have r4_15:=(Qaa (rpn p14 r4_12 e13 l28) e15)
  have r5_12:=(ExtB.row q12 r5_11 hnq)
  have r5_15:=(Qaa (rpn p14 r5_12 e13 l28) e15)
  have r1_15:=(Qaa (rpn p14 r1_12 e13 l28) e15)
  have r30_18:=(Qaa r30_17 e18)
  refine Qaw (fun v W'=>v=.tuple #[]∧ExtB g W18 W'∧W'.heap[g]? = some (.cells (HR k2 true 0 c2 hash begins sk pk peer 1 mine theirs) 76)) 74 #[.pointer (some ⟨g,0,none⟩),.slice (some ⟨g30,0,none⟩) 32 32] 57 rfl kj kj ((QeB g k1 c1 hash true 0 (Qav (agN xs ps)) _ _ tc tq _ hk1l hc1l hhl hc1b (Field.bytesOf_areBytes _) (by rw [QaE]; decide) (Qaa (rpn p17 r4_15 e16 l30) e18) (Qaa (rpn p17 r5_15 e16 l30) e18) (Qaa (rpn p17 r1_15 e16 l30) e18) (Qb8 (xs:=Qav (agN xs ps)) (n:=32) (QaE _) r30_18 (Qa7 r30_18) (show 32≤maxLen from by decide))).mono (by intro e w' h; exact ⟨_,h.1,rfl,h.2.1,(by rw [ek2,ec2]; exact h.2.2)⟩)) fun v W19 h33=>?_
  obtain ⟨rfl,q19,r1_19⟩:=h33
  refine Qaz <| hK26 _ _ <| sgA kj ?_
  show zbf _ _ _ 1 _ _
  show zbe _ _ (Exit.then (zbf _ _ _ 0) _) _ _
  refine sgB kj <| wp_seq_k fun K35 hK35=>cond_false kj <| wp_exit <| hK12 _ _ <| sgB kj <| wp_ret ?_
  exact (show bodyPost _ _ _ .ret _ _ from ret1 (.nilIface) rfl (Qa4 kj) ⟨rfl,(ExtB.trans (zbm (ExtB.putsN (zbm x15 e16) p17 (qT x15.size l30)) e18) q19),r1_19⟩)
end No
end
section
namespace No
open Go Go.RowKit
open Rely Auto Own Sha
open Cha
open Ae hiding run_storeQ
open Ll hiding run_storeQ
open Ci
open Field (Qav pubL agN Qat Qbc QaE Qbk)
theorem QcZ (g : Nat) {Tg:TypeId} {f:Array Value} {r:List (Array Value)} (key chain hash:List Int) (has:Bool) (num:Int) (gp n:Nat) (Tp:TypeId) (ps:List (Value×List Int)) (hn:ps.length=n) (hn9:n≤1000000) (tc tq:TypeId) (w:World) (hkl:key.length=32) (hcl:chain.length=32) (hhl:hash.length=32) (hhb:Qaf hash) (hc:w.heap[1]? = some (.cells (ints .u64 QbI) tc)) (hq:w.heap[0]? = some (.cells (ints .u64 Qbf) tq)) (hg:w.heap[g]? = some (.cells (cat (ints .u8 (key)::#[.bool has]::#[.int .i64 num]::ints .u8 (chain)::ints .u8 (hash)::f::r)) Tg)) (hrow:w.heap[gp]? = some (.cells (ps.map Prod.fst).toArray Tp)) (hps:∀ p∈ps,RdK .u8 w.heap.size p.2 p.1 w∧Qaf p.2) (hlen:((ps.map Prod.snd).flatten).length≤800000000) :
    Calls Tryz.prog 28 #[.pointer (some ⟨g,0,none⟩),.slice (some ⟨gp,0,none⟩) n n] w (fun e W=>e=.returned (.tuple #[])∧ExtB g w W∧W.heap[g]? = some (.cells (cat (ints .u8 (key)::#[.bool has]::#[.int .i64 num]::ints .u8 (chain)::ints .u8 (dig (hash++(ps.map Prod.snd).flatten))::f::r)) Tg)):=by
  rw [hcat] at hg ⊢
  exact Qh7 g key chain hash has num gp n Tp ps hn hn9 tc tq w hkl hcl hhl hhb hc hq hg hrow hps hlen
theorem Qqx (g : Nat) {Tg:TypeId} {f:Array Value} {r:List (Array Value)} (key chain hash text fs:List Int) (es:Qc0 key (nonV 0) hash text=fs) (v:Value) (B:Nat) (th tq tsc tsq:TypeId) (w:World) (hkl:key.length=32) (hcl:chain.length=32) (hhl:hash.length=32) (hhb:Qaf hash) (hh:w.heap[2]? = some (.cells (ints .u32 qH) th)) (hq:w.heap[3]? = some (.cells (ints .i64 qQ) tq)) (hsc:w.heap[1]? = some (.cells (ints .u64 QbI) tsc)) (hsq:w.heap[0]? = some (.cells (ints .u64 Qbf) tsq)) (hnh:2≠g) (hnq:3≠g) (hnc:1≠g) (hns:0≠g) (hg:w.heap[g]? = some (.cells (cat (ints .u8 (key)::#[.bool true]::#[.int .i64 0]::ints .u8 (chain)::ints .u8 (hash)::f::r)) Tg)) (hfb:Qaf fs) (lfs:fs.length=text.length+16) (htl:text.length≤1048576) (ht:RdK .u8 B text v w) :
    Calls Tryz.prog 48 #[.pointer (some ⟨g,0,none⟩),v] w (fun e W=>∃ u,e=.returned (.tuple #[u,.nilIface])∧OwnN .u8 5 w.heap.size fs u W∧ExtB g w W∧W.heap[g]? = some (.cells (cat (ints .u8 (key)::#[.bool true]::#[.int .i64 1]::ints .u8 (chain)::ints .u8 (dig (hash++fs))::f::r)) Tg)):=by
  rw [hcat] at hg ⊢
  exact Qro g key chain hash 0 text fs es v B th tq tsc tsq w hkl hcl hhl hhb hh hq hsc hsq hnh hnq hnc hns hg (by decide) hfb lfs htl ht
theorem QpW (g : Nat) {Tg:TypeId} {f:Array Value} {r:List (Array Value)} (key chain hash text fs:List Int) (es:Qc0 key (nonV 0) hash text=fs) (v:Value) (th tq tsc tsq:TypeId) (w:World) (hkl:key.length=32) (hcl:chain.length=32) (hhl:hash.length=32) (hhb:Qaf hash) (hh:w.heap[2]? = some (.cells (ints .u32 qH) th)) (hq:w.heap[3]? = some (.cells (ints .i64 qQ) tq)) (hsc:w.heap[1]? = some (.cells (ints .u64 QbI) tsc)) (hsq:w.heap[0]? = some (.cells (ints .u64 Qbf) tsq)) (hnh:2≠g) (hnq:3≠g) (hnc:1≠g) (hns:0≠g) (hg:w.heap[g]? = some (.cells (cat (ints .u8 (key)::#[.bool true]::#[.int .i64 0]::ints .u8 (chain)::ints .u8 (hash)::f::r)) Tg)) (hfb:Qaf fs) (lfs:fs.length=text.length+16) (htb:Qaf text) (htl:text.length≤1048576) (hst:∀ W,ExtB g w W→RdK .u8 W.heap.size fs v W) :
    Calls Tryz.prog 53 #[.pointer (some ⟨g,0,none⟩),v] w (fun e W=>∃ u,e=.returned (.tuple #[u,.nilIface])∧OwnN .u8 5 w.heap.size text u W∧ExtB g w W∧W.heap[g]? = some (.cells (cat (ints .u8 (key)::#[.bool true]::#[.int .i64 1]::ints .u8 (chain)::ints .u8 (dig (hash++fs))::f::r)) Tg)):=by
  rw [hcat] at hg ⊢
  exact QqX g key chain hash 0 text fs es v th tq tsc tsq w hkl hcl hhl hhb hh hq hsc hsq hnh hnq hnc hns hg (by decide) hfb lfs htb htl hst
theorem QiJ (g : Nat) (key chain hash sk pk peer mine theirs:List Int) (has begins:Bool) (num:Int) (w:World) (hkl:key.length=32) (hcl:chain.length=32) (hhl:hash.length=32) (hskl:sk.length=32) (hpkl:pk.length=32) (hpel:peer.length=32) (hmil:mine.length=32) (hthl:theirs.length=32) (hg:w.heap[g]? = some (.cells (HR key has num chain hash begins sk pk peer 0 mine theirs) 76)):Calls Tryz.prog 49 #[.pointer (some ⟨g,0,none⟩)] w (fun e W=>e=.returned (.tuple #[])∧ExtB g w W∧W.heap[g]? = some (.cells (HR key has num chain hash begins sk pk peer 1 mine theirs) 76)):=by
  refine enter 18 [(0,.pointer (some ⟨g,0,none⟩))] Tryz.func49 rfl rfl kj rfl <| sgC fun K2 hK2=>sg 3 kj <| Qac (.int .i64 0) 5 rfl kj (Qaj 74 _ g 195 76 _ (.int .i64 0) _ hg rfl kj (Qaq [ints .u8 (key),#[.bool has],#[.int .i64 num],ints .u8 (chain),ints .u8 (hash),#[.bool begins],ints .u8 (sk),ints .u8 (pk),ints .u8 (peer)] [#[.int .i64 0]] [ints .u8 (mine),ints .u8 (theirs)] 195 (by rw [Qab,Qab,Qab,Qab,Qab,Qab,Qab,Qab,Qab]; simp only [qS,cat,(izT hcl),(izT hhl),(izT hkl),(izT hpel),(izT hpkl),(izT hskl)]; rfl) 0 _ rfl) kj) ?_
  refine sg 3 kj ?_
  have xb0:=zbm (ExtB.refl g w) (zbg w)
  refine Qai g _ (HR key has num chain hash begins sk pk peer 1 mine theirs) 76 hg rfl kj (run_storeQ 74 _ _ g 195 76 [ints .u8 (key),#[.bool has],#[.int .i64 num],ints .u8 (chain),ints .u8 (hash),#[.bool begins],ints .u8 (sk),ints .u8 (pk),ints .u8 (peer)] [ints .u8 (mine),ints .u8 (theirs)] _ (.int .i64 1) hg rfl kj kj kj (by rw [Qab,Qab,Qab,Qab,Qab,Qab,Qab,Qab,Qab]; simp only [qS,cat,(izT hcl),(izT hhl),(izT hkl),(izT hpel),(izT hpkl),(izT hskl)]; rfl) rfl rfl) fun W1 p1 r1_1=>?_
  refine sgN hK2 <| sgC fun K3 hK3=>sg 3 kj <| Qac (.int .i64 1) 12 rfl kj (Qaj 74 _ g 195 76 _ (.int .i64 1) _ r1_1 rfl kj (Qaq [ints .u8 (key),#[.bool has],#[.int .i64 num],ints .u8 (chain),ints .u8 (hash),#[.bool begins],ints .u8 (sk),ints .u8 (pk),ints .u8 (peer)] [#[.int .i64 1]] [ints .u8 (mine),ints .u8 (theirs)] 195 (by rw [Qab,Qab,Qab,Qab,Qab,Qab,Qab,Qab,Qab]; simp only [qS,cat,(izT hcl),(izT hhl),(izT hkl),(izT hpel),(izT hpkl),(izT hskl)]; rfl) 0 _ rfl) kj) ?_
  refine sg 1 kj <| sgN hK3 <| cond_false kj <| wp_skip ?_
  repeat (first | with_reducible refine goX1 ?_ | with_reducible refine goX2 ?_ | with_reducible refine goX3 ?_)
  exact (show bodyPost _ _ _ .normal _ _ from end0 rfl ⟨rfl,(ExtB.puts xb0 p1),r1_1⟩)
theorem QiI (g : Nat) (key chain hash sk pk peer mine theirs:List Int) (has begins:Bool) (num:Int) (w:World) (hkl:key.length=32) (hcl:chain.length=32) (hhl:hash.length=32) (hskl:sk.length=32) (hpkl:pk.length=32) (hpel:peer.length=32) (hmil:mine.length=32) (hthl:theirs.length=32) (hg:w.heap[g]? = some (.cells (HR key has num chain hash begins sk pk peer 1 mine theirs) 76)):Calls Tryz.prog 49 #[.pointer (some ⟨g,0,none⟩)] w (fun e W=>e=.returned (.tuple #[])∧ExtB g w W∧W.heap[g]? = some (.cells (HR key has num chain hash begins sk pk peer 2 (zaJ 32 0) theirs) 76)):=by
  refine enter 18 [(0,.pointer (some ⟨g,0,none⟩))] Tryz.func49 rfl rfl kj rfl <| sgC fun K2 hK2=>sg 3 kj <| Qac (.int .i64 1) 5 rfl kj (Qaj 74 _ g 195 76 _ (.int .i64 1) _ hg rfl kj (Qaq [ints .u8 (key),#[.bool has],#[.int .i64 num],ints .u8 (chain),ints .u8 (hash),#[.bool begins],ints .u8 (sk),ints .u8 (pk),ints .u8 (peer)] [#[.int .i64 1]] [ints .u8 (mine),ints .u8 (theirs)] 195 (by rw [Qab,Qab,Qab,Qab,Qab,Qab,Qab,Qab,Qab]; simp only [qS,cat,(izT hcl),(izT hhl),(izT hkl),(izT hpel),(izT hpkl),(izT hskl)]; rfl) 0 _ rfl) kj) ?_
  refine sg 3 kj ?_
  have xb0:=zbm (ExtB.refl g w) (zbg w)
  refine Qai g _ (HR key has num chain hash begins sk pk peer 2 mine theirs) 76 hg rfl kj (run_storeQ 74 _ _ g 195 76 [ints .u8 (key),#[.bool has],#[.int .i64 num],ints .u8 (chain),ints .u8 (hash),#[.bool begins],ints .u8 (sk),ints .u8 (pk),ints .u8 (peer)] [ints .u8 (mine),ints .u8 (theirs)] _ (.int .i64 2) hg rfl kj kj kj (by rw [Qab,Qab,Qab,Qab,Qab,Qab,Qab,Qab,Qab]; simp only [qS,cat,(izT hcl),(izT hhl),(izT hkl),(izT hpel),(izT hpkl),(izT hskl)]; rfl) rfl rfl) fun W1 p1 r1_1=>?_
  refine sgN hK2 <| sgC fun K3 hK3=>sg 3 kj <| Qac (.int .i64 2) 12 rfl kj (Qaj 74 _ g 195 76 _ (.int .i64 2) _ r1_1 rfl kj (Qaq [ints .u8 (key),#[.bool has],#[.int .i64 num],ints .u8 (chain),ints .u8 (hash),#[.bool begins],ints .u8 (sk),ints .u8 (pk),ints .u8 (peer)] [#[.int .i64 2]] [ints .u8 (mine),ints .u8 (theirs)] 195 (by rw [Qab,Qab,Qab,Qab,Qab,Qab,Qab,Qab,Qab]; simp only [qS,cat,(izT hcl),(izT hhl),(izT hkl),(izT hpel),(izT hpkl),(izT hskl)]; rfl) 0 _ rfl) kj) ?_
  refine sg 1 kj <| sgN hK3 <| cond_true kj <| Qao <| sg 4 kj <| Qai g _ (HR key has num chain hash begins sk pk peer 2 (zaJ 32 0) theirs) 76 r1_1 rfl kj (Qbm 23 _ _ g 196 76 [ints .u8 (key),#[.bool has],#[.int .i64 num],ints .u8 (chain),ints .u8 (hash),#[.bool begins],ints .u8 (sk),ints .u8 (pk),ints .u8 (peer),#[.int .i64 2]] [ints .u8 (mine)] [ints .u8 (zaJ 32 0)] [ints .u8 (theirs)] r1_1 rfl kj kj (isz (n:=32) kj (izT (qZ (n:=32)))) (by rw [Qab,Qab,Qab,Qab,Qab,Qab,Qab,Qab,Qab,Qab]; simp only [qS,cat,(izT hcl),(izT hhl),(izT hkl),(izT hpel),(izT hpkl),(izT hskl)]; rfl) (eqsz (n:=32) (izT (qZ (n:=32))) (izT hmil)) (ints_one _ _)) fun W2 p2 r1_2=>?_
  refine Qaz ?_
  repeat (first | with_reducible refine goX1 ?_ | with_reducible refine goX2 ?_ | with_reducible refine goX3 ?_)
  exact (show bodyPost _ _ _ .normal _ _ from end0 rfl ⟨rfl,(ExtB.puts (ExtB.puts xb0 p1) p2),r1_2⟩)
end No
end
section
namespace No
open Go Go.RowKit
open Rely Auto Own Sha
open Cha
open Ae hiding run_storeQ
open Ll hiding run_storeQ
open Ci Wk
open Field (Qav pubL agN Qat Qbc QaE Qbk)
theorem Qnm (sk : List Int) (hsk:sk.length=32) (hskb:Qaf sk) (w:World):Calls Tryz.prog 10 #[.agg (ints .u8 sk)] w (Ret w (.agg (cat [ints .u8 sk,ints .u8 (pubL sk)]))):=by
  refine enter 7 [(0,.agg (ints .u8 (sk)))] Tryz.func10 rfl rfl kj rfl <| sgC fun K1 hK1=>Qak (ints .u8 (sk)) 23 1 rfl kj kj fun g2 W1 l2 e1 r2_1=>?_
  have x1:=zbk (zbg w) e1
  have b2:=qT (zbg w).size l2
  refine Qak (cat [ints .u8 (zaJ 32 0),ints .u8 (zaJ 32 0)]) 33 2 rfl kj kj fun g3 W2 l3 e2 r3_2=>sgN hK1 <| wp_seq_k fun K4 hK4=>QaQ 4 [⟨none,[(1,none)]⟩,⟨none,[(1,none)]⟩,⟨none,[(4,some 1)]⟩,⟨none,[(3,some 0),(5,some 2)]⟩] kj kj fun F hF=>?_
  have r2_2:=(Qaa r2_1 e2)
  refine Qax (.agg (ints .u8 (sk))) kj kj (fun W hR=>(Qae 23 _ g2 23 _ _ (Qaa (Qaa r2_2 (Qah _)) hR) rfl kj kj (isz (n:=32) kj (izT hsk)))) <| Qax (.agg (ints .u8 (sk))) kj kj (fun W hR=>(Qae 23 _ g2 23 _ _ (Qaa (Qaa r2_2 (Qah _)) hR) rfl kj kj (isz (n:=32) kj (izT hsk)))) <| QaI (.agg (ints .u8 (pubL sk))) 26 #[.agg (ints .u8 (sk))] kj kj (fun _=>kj) (fun W hR=>(Field.refPublic sk hsk hskb) W) <| Qal (.agg (cat [ints .u8 (sk),ints .u8 (pubL sk)])) kj kj (fun W=>(Qbk 33 _ (.agg (cat [ints .u8 (zaJ 32 0),ints .u8 (zaJ 32 0)])) #[(0,32),(32,32)] [(0,32,.agg (ints .u8 (sk)),ints .u8 (sk)),(1,32,.agg (ints .u8 (pubL sk)),ints .u8 (pubL sk))] rfl kj ⟨kj,rfl,(izT hsk),kj,rfl,(izT (Qat sk)),trivial⟩ kj kj kj kj)) <| QaH (hF _ kj fun W3 e3=>?_)
  simp only [ups,up,zbl,zap,zaq,zar,zas,zat,zau]
  clear hF
  have r3_3:=(Qaa r3_2 e3)
  refine Qai g3 _ (cat [ints .u8 (sk),ints .u8 (pubL sk)]) 33 r3_3 rfl kj (Qag 33 _ _ g3 33 _ _ r3_3 rfl kj kj (isz (n:=64) kj (by rw [Qab,Qab]; simp only [qS,cat,(izT (Qat sk)),(izT hsk)]; rfl)) (eqsz (n:=64) (by rw [Qab,Qab]; simp only [qS,cat,(izT (qZ (n:=32)))]; rfl) (by rw [Qab,Qab]; simp only [qS,cat,(izT (Qat sk)),(izT hsk)]; rfl)) (Qch _ (by intro a ha; simp only [zaj,zaK,or_false] at ha; rcases ha with rfl | rfl; exact (ints_one _ _); exact (ints_one _ _)))) fun W4 p4 r3_4=>?_
  refine sgN hK4 <| wp_ret ?_
  exact (show bodyPost _ _ _ .ret _ _ from ret1 (.agg (cat [ints .u8 (sk),ints .u8 (pubL sk)])) rfl (QaU g3 33 _ r3_4 kj kj (isz (n:=64) kj (by rw [Qab,Qab]; simp only [qS,cat,(izT (Qat sk)),(izT hsk)]; rfl))) ⟨rfl,(zbj p4 (zbk (zbk x1 e2) e3) (qT x1.size l3))⟩)
theorem Qrp (g : Nat) {Tg:TypeId} {f:Array Value} {r:List (Array Value)} (key chain hash:List Int) (has:Bool) (num:Int) (w:World) (hkl:key.length=32) (hcl:chain.length=32) (hhl:hash.length=32) (hg:w.heap[g]? = some (.cells (cat (ints .u8 (key)::#[.bool has]::#[.int .i64 num]::ints .u8 (chain)::ints .u8 (hash)::f::r)) Tg)):Calls Tryz.prog 36 #[.pointer (some ⟨g,0,none⟩)] w (Ret w (.agg (ints .u8 hash))):=by
  rw [hcat] at hg
  exact Qrq g key chain hash has num w hkl hcl hhl hg
theorem QqI (g : Nat) (key chain hash sk pk peer mine theirs:List Int) (has begins:Bool) (num stage:Int) (w:World) (hkl:key.length=32) (hcl:chain.length=32) (hhl:hash.length=32) (hskl:sk.length=32) (hpkl:pk.length=32) (hpel:peer.length=32) (hmil:mine.length=32) (hthl:theirs.length=32) (hg:w.heap[g]? = some (.cells (HR key has num chain hash begins sk pk peer stage mine theirs) 76)):Calls Tryz.prog 19 #[.pointer (some ⟨g,0,none⟩)] w (Ret w (.agg (ints .u8 hash))):=by
  refine enter 10 [(0,.pointer (some ⟨g,0,none⟩))] Tryz.func19 rfl rfl kj rfl <| sgC fun K2 hK2=>Qak (ints .u8 (zaJ 32 0)) 35 2 rfl kj kj fun g3 W1 l3 e1 r3_1=>sgN hK2 <| wp_seq_k fun K4 hK4=>sgB kj <| cond_false kj <| wp_skip <| hK4 _ _ <| sgC fun K6 hK6=>?_
  refine sg 3 kj <| Qas (.agg (ints .u8 (hash))) 36 #[.pointer (some ⟨g,0,none⟩)] 9 rfl kj kj (Qrp g key chain hash has num _ hkl hcl hhl (Qaa hg e1)) fun W2 e2=>?_
  have r3_2:=(Qaa r3_1 e2)
  refine Qai g3 _ (ints .u8 (hash)) 35 r3_2 rfl kj (Qag 35 _ _ g3 35 _ _ r3_2 rfl kj kj (isz (n:=32) kj (izT hhl)) (eqsz (n:=32) (izT (qZ (n:=32))) (izT hhl)) (ints_one _ _)) fun W3 p3 r3_3=>sgN hK6 <| wp_ret ?_
  exact (show bodyPost _ _ _ .ret _ _ from ret1 (.agg (ints .u8 (hash))) rfl (QaU g3 35 _ r3_3 kj kj (isz (n:=32) kj (izT hhl))) ⟨rfl,(zbj p3 (zbk (zbk (zbg w) e1) e2) (qT (zbg w).size l3))⟩)
end No
end
section
namespace No
open Go Go.RowKit
open Rely Auto Own Sha
open Cha
open Ae hiding run_storeQ
open Ll hiding run_storeQ
open Ci Wk
open Field (Qav pubL agN Qat Qbc QaE Qbk)
theorem Qo2 (g : Nat) (key chain hash sk pk peer mine theirs:List Int) (has begins:Bool) (num stage:Int) (tc tq th tr:TypeId) (w:World) (hkl:key.length=32) (hcl:chain.length=32) (hhl:hash.length=32) (hskl:sk.length=32) (hpkl:pk.length=32) (hpel:peer.length=32) (hmil:mine.length=32) (hthl:theirs.length=32) (hcb:Qaf chain) (hT:Tabs tc tq th tr w) (hg:w.heap[g]? = some (.cells (HR key has num chain hash begins sk pk peer stage mine theirs) 76)):Calls Tryz.prog 37 #[.pointer (some ⟨g,0,none⟩)] w (Ret w (.tuple #[.agg (ints .u8 (twA chain)),.agg (ints .u8 (twB chain))])):=by
  have hc4:=hT.c
  have hq4:=hT.q
  have hh4:=hT.h
  have hr4:=hT.r
  refine enter 15 [(0,.pointer (some ⟨g,0,none⟩))] Tryz.func37 rfl rfl kj rfl <| sgC fun K6 hK6=>Qak (ints .u8 (zaJ 32 0)) 23 2 rfl kj kj fun g7 W1 l7 e1 r7_1=>?_
  have x1:=zbk (zbg w) e1
  refine Qak (ints .u8 (zaJ 32 0)) 23 3 rfl kj kj fun g8 W2 l8 e2 r8_2=>sgN hK6 <| wp_seq_k fun K9 hK9=>sgB kj <| cond_false kj <| wp_skip <| hK9 _ _ <| sgC fun K11 hK11=>sg 3 kj <| Qac (.agg (ints .u8 (chain))) 11 rfl kj (Qan 35 _ g 34 76 _ _ _ (Qaa (Qaa hg e1) e2) rfl kj (Qaq [ints .u8 (key),#[.bool has],#[.int .i64 num]] [ints .u8 (chain)] [ints .u8 (hash),#[.bool begins],ints .u8 (sk),ints .u8 (pk),ints .u8 (peer),#[.int .i64 stage],ints .u8 (mine),ints .u8 (theirs)] 34 (by rw [Qab,Qab,Qab]; simp only [qS,cat,(izT hkl)]; rfl)) kj (isz (n:=32) kj (izT hcl))) ?_
  refine Qas (.tuple #[.agg (ints .u8 (twA chain)),.agg (ints .u8 (twB chain))]) 55 #[.agg (ints .u8 (chain))] 12 rfl kj kj (twoC chain tc tq _ hcl hcb (Qaa (Qaa hc4 e1) e2) (Qaa (Qaa hq4 e1) e2)) fun W3 e3=>sg 2 kj ?_
  have r7_3:=(Qaa (Qaa r7_1 e2) e3)
  refine Qai g7 _ (ints .u8 (twA chain)) 23 r7_3 rfl kj (Qag 23 _ _ g7 23 _ _ r7_3 rfl kj kj (isz (n:=32) kj (izT (QaJ _))) (eqsz (n:=32) (izT (qZ (n:=32))) (izT (QaJ _))) (ints_one _ _)) fun W4 p4 r7_4=>?_
  have r8_4:=(zbi p4 (Qaa r8_2 e3) (Qap r7_1 l8))
  refine Qai g8 _ (ints .u8 (twB chain)) 23 r8_4 rfl kj (Qag 23 _ _ g8 23 _ _ r8_4 rfl kj kj (isz (n:=32) kj (izT (QaN _))) (eqsz (n:=32) (izT (qZ (n:=32))) (izT (QaN _))) (ints_one _ _)) fun W5 p5 r8_5=>sgN hK11 <| wp_ret ?_
  exact (show bodyPost _ _ _ .ret _ _ from ret2 (.agg (ints .u8 (twA chain))) (.agg (ints .u8 (twB chain))) rfl (QaU g7 23 _ (zbi p5 r7_4 (Qad r7_1 l8)) kj kj (isz (n:=32) kj (izT (QaJ _)))) (QaU g8 23 _ r8_5 kj kj (isz (n:=32) kj (izT (QaN _)))) ⟨rfl,(zbj p5 (zbj p4 (zbk (zbk x1 e2) e3) (qT (zbg w).size l7)) (qT x1.size l8))⟩)
end No
end
section
namespace No
open Go Go.RowKit
open Rely Auto Own Sha
open Cha
open Ae hiding run_storeQ
open Ll hiding run_storeQ
open Ci Wk
open Field (Qav pubL agN Qat Qbc QaE Qbk)
theorem QhZ {P : Program} {fn:Func} {N:Nat} {L:Env} {w:World} {r s t:ResultVar} {u v x:Value} (hr:fn.results=#[r,s,t]) (h:Qdf P w N L r u) (k:Qdf P w N L s v) (l:Qdf P w N L t x):(results fn (Qau [] N L).tmps).run P w=.ok (.tuple #[u,v,x]) w:=by
  rw [QdL,hr]
  simp [Qck h,Qck k,Qck l,zaH]
theorem ret3 {P : Program} {fn:Func} {R:Ending→World→Prop} {N:Nat} {L:Env} {w:World} {r s t:ResultVar} (u v x:Value) (hr:fn.results=#[r,s,t]) (h:Qdf P w N L r u) (k:Qdf P w N L s v) (l:Qdf P w N L t x) (z:R (.returned (.tuple #[u,v,x])) w):bodyPost P fn R .ret (Qau [] N L) w:=bodyPost_ret (QhZ hr h k l) rfl z
theorem QiN (g : Nat) (key chain hash sk pk peer mine theirs:List Int) (has:Bool) (num:Int) (tc tq th tr:TypeId) (w:World) (hkl:key.length=32) (hcl:chain.length=32) (hhl:hash.length=32) (hskl:sk.length=32) (hpkl:pk.length=32) (hpel:peer.length=32) (hmil:mine.length=32) (hthl:theirs.length=32) (hcb:Qaf chain) (hT:Tabs tc tq th tr w) (hg:w.heap[g]? = some (.cells (HR key has num chain hash true sk pk peer 2 mine theirs) 76)):Calls Tryz.prog 23 #[.pointer (some ⟨g,0,none⟩)] w (Ret w (.tuple #[.agg (ints .u8 (twA chain)),.agg (ints .u8 (twB chain)),.nilIface])):=by
  have hc4:=hT.c
  have hq4:=hT.q
  have hh4:=hT.h
  have hr4:=hT.r
  refine enter 27 [(0,.pointer (some ⟨g,0,none⟩))] Tryz.func23 rfl rfl kj rfl <| sgC fun K6 hK6=>Qak (ints .u8 (zaJ 32 0)) 23 2 rfl kj kj fun g7 W1 l7 e1 r7_1=>?_
  have x1:=zbk (zbg w) e1
  have b7:=qT (zbg w).size l7
  refine Qak (ints .u8 (zaJ 32 0)) 23 3 rfl kj kj fun g8 W2 l8 e2 r8_2=>?_
  have b8:=qT x1.size l8
  refine sg 1 kj <| sgN hK6 <| wp_seq_k fun K9 hK9=>sgC fun K10 hK10=>sg 1 kj ?_
  have r1_1:=(Qaa hg e1)
  have r1_2:=(Qaa r1_1 e2)
  refine Qas (.bool true) 22 #[.pointer (some ⟨g,0,none⟩)] 6 rfl kj kj (Qkk g key chain hash sk pk peer mine theirs has true num _ hkl hcl hhl hskl hpkl hpel hmil hthl r1_2) fun W3 e3=>sg 1 kj <| sgN hK10 <| cond_false kj <| wp_skip <| hK9 _ _ <| sgC fun K11 hK11=>sg 3 kj ?_
  have r1_3:=(Qaa r1_2 e3)
  refine Qas (.tuple #[.agg (ints .u8 (twA chain)),.agg (ints .u8 (twB chain))]) 37 #[.pointer (some ⟨g,0,none⟩)] 15 rfl kj kj (Qo2 g key chain hash sk pk peer mine theirs has true num 2 tc tq th tr _ hkl hcl hhl hskl hpkl hpel hmil hthl hcb ⟨(Qaa (Qaa (Qaa hc4 e1) e2) e3),(Qaa (Qaa (Qaa hq4 e1) e2) e3),(Qaa (Qaa (Qaa hh4 e1) e2) e3),(Qaa (Qaa (Qaa hr4 e1) e2) e3)⟩ r1_3) fun W4 e4=>sg 3 kj ?_
  have r7_4:=(Qaa (Qaa (Qaa r7_1 e2) e3) e4)
  refine Qai g7 _ (ints .u8 (twA chain)) 23 r7_4 rfl kj (Qag 23 _ _ g7 23 _ _ r7_4 rfl kj kj (isz (n:=32) kj (izT (QaJ _))) (eqsz (n:=32) (izT (qZ (n:=32))) (izT (QaJ _))) (ints_one _ _)) fun W5 p5 r7_5=>?_
  have r8_5:=(zbi p5 (Qaa (Qaa r8_2 e3) e4) (Qap r7_1 l8))
  refine Qai g8 _ (ints .u8 (twB chain)) 23 r8_5 rfl kj (Qag 23 _ _ g8 23 _ _ r8_5 rfl kj kj (isz (n:=32) kj (izT (QaN _))) (eqsz (n:=32) (izT (qZ (n:=32))) (izT (QaN _))) (ints_one _ _)) fun W6 p6 r8_6=>sgN hK11 <| wp_seq_k fun K12 hK12=>sgC fun K13 hK13=>sg 3 kj <| Qac (.bool true) 21 rfl kj (Qaj 4 _ g 98 76 _ (.bool true) _ (zbi p6 (zbi p5 (Qaa r1_3 e4) (Qad hg l7)) (Qad r1_1 l8)) rfl kj (Qaq [ints .u8 (key),#[.bool has],#[.int .i64 num],ints .u8 (chain),ints .u8 (hash)] [#[.bool true]] [ints .u8 (sk),ints .u8 (pk),ints .u8 (peer),#[.int .i64 2],ints .u8 (mine),ints .u8 (theirs)] 98 (by rw [Qab,Qab,Qab,Qab,Qab]; simp only [qS,cat,(izT hcl),(izT hhl),(izT hkl)]; rfl) 0 _ rfl) kj) ?_
  refine sg 1 kj <| sgN hK13 <| cond_false kj <| wp_skip <| hK12 _ _ <| wp_seq_k fun K14 hK14=>QbB (fun W=>W.heap[g8]? = some (.cells (ints .u8 (twB chain)) 23)) [⟨none,[(2,none)]⟩,⟨none,[(3,none)]⟩,⟨none,[(2,none),(25,some 0)]⟩,⟨none,[(3,none),(26,some 1)]⟩,⟨none,[]⟩] [] [1,4] kj kj kj (fun W hR=>Qaa r8_6 hR) fun F hF=>?_
  have r7_6:=(zbi p6 r7_5 (Qad r7_1 l8))
  refine Qbz (.agg (ints .u8 (twA chain))) kj kj kj rfl (fun W hR=>(Qae 23 _ g7 23 _ _ (Qaa (Qaa r7_6 (Qah _)) hR) rfl kj kj (isz (n:=32) kj (izT (QaJ _))))) <| QdH (.agg (ints .u8 (twB chain))) kj kj kj rfl (fun W hW=>(Qae 23 _ g8 23 _ _ hW rfl kj kj (isz (n:=32) kj (izT (QaN _))))) <| Qb0 rfl <| Qb0 rfl <| QaY (.nilIface) kj kj rfl (fun _=>kj) <| QeY (hF _ kj fun W7 e7=>?_)
  simp only [zat,zau,fins,up]
  clear hF
  have r7_7:=(Qaa r7_6 e7)
  have r8_7:=(Qaa r8_6 e7)
  refine Qbv _ g7 _ (ints .u8 (twA chain)) 23 r7_7 rfl (Qag 23 _ _ g7 23 _ _ r7_7 rfl kj kj (isz (n:=32) kj (izT (QaJ _))) (eqsz (n:=32) (izT (QaJ _)) (izT (QaJ _))) (ints_one _ _)) (fun W hp=>zbi hp r8_7 (Qap r7_1 l8)) fun W8 p8 r7_8=>?_
  have r8_8:=(zbi p8 r8_7 (Qap r7_1 l8))
  refine QeX _ g8 _ (ints .u8 (twB chain)) 23 r8_8 rfl (Qag 23 _ _ g8 23 _ _ r8_8 rfl kj kj (isz (n:=32) kj (izT (QaN _))) (eqsz (n:=32) (izT (QaN _)) (izT (QaN _))) (ints_one _ _)) (fun W hp hrw=>hrw) fun W9 p9 r8_9=>Qd8 <| hK14 _ _ <| wp_ret ?_
  exact (show bodyPost _ _ _ .ret _ _ from ret3 (.agg (ints .u8 (twA chain))) (.agg (ints .u8 (twB chain))) (.nilIface) rfl (QaU g7 23 _ (zbi p9 r7_8 (Qad r7_1 l8)) kj kj (isz (n:=32) kj (izT (QaJ _)))) (QaU g8 23 _ r8_9 kj kj (isz (n:=32) kj (izT (QaN _)))) (Qa4 kj) ⟨rfl,(zbj p9 (zbj p8 (zbk (zbj p6 (zbj p5 (zbk (zbk (zbk x1 e2) e3) e4) b7) b8) e7) b7) b8)⟩)
theorem Qhg (g : Nat) (key chain hash sk pk peer mine theirs:List Int) (has:Bool) (num:Int) (tc tq th tr:TypeId) (w:World) (hkl:key.length=32) (hcl:chain.length=32) (hhl:hash.length=32) (hskl:sk.length=32) (hpkl:pk.length=32) (hpel:peer.length=32) (hmil:mine.length=32) (hthl:theirs.length=32) (hcb:Qaf chain) (hT:Tabs tc tq th tr w) (hg:w.heap[g]? = some (.cells (HR key has num chain hash false sk pk peer 2 mine theirs) 76)):Calls Tryz.prog 23 #[.pointer (some ⟨g,0,none⟩)] w (Ret w (.tuple #[.agg (ints .u8 (twB chain)),.agg (ints .u8 (twA chain)),.nilIface])):=by
  have hc4:=hT.c
  have hq4:=hT.q
  have hh4:=hT.h
  have hr4:=hT.r
  refine enter 27 [(0,.pointer (some ⟨g,0,none⟩))] Tryz.func23 rfl rfl kj rfl <| sgC fun K6 hK6=>Qak (ints .u8 (zaJ 32 0)) 23 2 rfl kj kj fun g7 W1 l7 e1 r7_1=>?_
  have x1:=zbk (zbg w) e1
  have b7:=qT (zbg w).size l7
  refine Qak (ints .u8 (zaJ 32 0)) 23 3 rfl kj kj fun g8 W2 l8 e2 r8_2=>?_
  have b8:=qT x1.size l8
  refine sg 1 kj <| sgN hK6 <| wp_seq_k fun K9 hK9=>sgC fun K10 hK10=>sg 1 kj ?_
  have r1_1:=(Qaa hg e1)
  have r1_2:=(Qaa r1_1 e2)
  refine Qas (.bool true) 22 #[.pointer (some ⟨g,0,none⟩)] 6 rfl kj kj (Qkk g key chain hash sk pk peer mine theirs has false num _ hkl hcl hhl hskl hpkl hpel hmil hthl r1_2) fun W3 e3=>sg 1 kj <| sgN hK10 <| cond_false kj <| wp_skip <| hK9 _ _ <| sgC fun K11 hK11=>sg 3 kj ?_
  have r1_3:=(Qaa r1_2 e3)
  refine Qas (.tuple #[.agg (ints .u8 (twA chain)),.agg (ints .u8 (twB chain))]) 37 #[.pointer (some ⟨g,0,none⟩)] 15 rfl kj kj (Qo2 g key chain hash sk pk peer mine theirs has false num 2 tc tq th tr _ hkl hcl hhl hskl hpkl hpel hmil hthl hcb ⟨(Qaa (Qaa (Qaa hc4 e1) e2) e3),(Qaa (Qaa (Qaa hq4 e1) e2) e3),(Qaa (Qaa (Qaa hh4 e1) e2) e3),(Qaa (Qaa (Qaa hr4 e1) e2) e3)⟩ r1_3) fun W4 e4=>sg 3 kj ?_
  have r7_4:=(Qaa (Qaa (Qaa r7_1 e2) e3) e4)
  refine Qai g7 _ (ints .u8 (twA chain)) 23 r7_4 rfl kj (Qag 23 _ _ g7 23 _ _ r7_4 rfl kj kj (isz (n:=32) kj (izT (QaJ _))) (eqsz (n:=32) (izT (qZ (n:=32))) (izT (QaJ _))) (ints_one _ _)) fun W5 p5 r7_5=>?_
  have r8_5:=(zbi p5 (Qaa (Qaa r8_2 e3) e4) (Qap r7_1 l8))
  refine Qai g8 _ (ints .u8 (twB chain)) 23 r8_5 rfl kj (Qag 23 _ _ g8 23 _ _ r8_5 rfl kj kj (isz (n:=32) kj (izT (QaN _))) (eqsz (n:=32) (izT (qZ (n:=32))) (izT (QaN _))) (ints_one _ _)) fun W6 p6 r8_6=>sgN hK11 <| wp_seq_k fun K12 hK12=>sgC fun K13 hK13=>sg 3 kj <| Qac (.bool false) 21 rfl kj (Qaj 4 _ g 98 76 _ (.bool false) _ (zbi p6 (zbi p5 (Qaa r1_3 e4) (Qad hg l7)) (Qad r1_1 l8)) rfl kj (Qaq [ints .u8 (key),#[.bool has],#[.int .i64 num],ints .u8 (chain),ints .u8 (hash)] [#[.bool false]] [ints .u8 (sk),ints .u8 (pk),ints .u8 (peer),#[.int .i64 2],ints .u8 (mine),ints .u8 (theirs)] 98 (by rw [Qab,Qab,Qab,Qab,Qab]; simp only [qS,cat,(izT hcl),(izT hhl),(izT hkl)]; rfl) 0 _ rfl) kj) ?_
  refine sg 1 kj <| sgN hK13 <| cond_true kj <| Qao <| Qac (.agg (ints .u8 (twB chain))) 23 rfl kj (Qae 23 _ g8 23 _ _ r8_6 rfl kj kj (isz (n:=32) kj (izT (QaN _)))) ?_
  have r7_6:=(zbi p6 r7_5 (Qad r7_1 l8))
  refine Qac (.agg (ints .u8 (twA chain))) 24 rfl kj (Qae 23 _ g7 23 _ _ r7_6 rfl kj kj (isz (n:=32) kj (izT (QaJ _)))) <| Qai g7 _ (ints .u8 (twB chain)) 23 r7_6 rfl kj (Qag 23 _ _ g7 23 _ _ r7_6 rfl kj kj (isz (n:=32) kj (izT (QaN _))) (eqsz (n:=32) (izT (QaJ _)) (izT (QaN _))) (ints_one _ _)) fun W7 p7 r7_7=>?_
  have r8_7:=(zbi p7 r8_6 (Qap r7_1 l8))
  refine Qai g8 _ (ints .u8 (twA chain)) 23 r8_7 rfl kj (Qag 23 _ _ g8 23 _ _ r8_7 rfl kj kj (isz (n:=32) kj (izT (QaJ _))) (eqsz (n:=32) (izT (QaN _)) (izT (QaJ _))) (ints_one _ _)) fun W8 p8 r8_8=>Qaz <| hK12 _ _ <| wp_seq_k fun K14 hK14=>QbB (fun W=>W.heap[g8]? = some (.cells (ints .u8 (twA chain)) 23)) [⟨none,[(2,none)]⟩,⟨none,[(3,none)]⟩,⟨none,[(2,none),(25,some 0)]⟩,⟨none,[(3,none),(26,some 1)]⟩,⟨none,[]⟩] [] [1,4] kj kj kj (fun W hR=>Qaa r8_8 hR) fun F hF=>?_
  have r7_8:=(zbi p8 r7_7 (Qad r7_1 l8))
  refine Qbz (.agg (ints .u8 (twB chain))) kj kj kj rfl (fun W hR=>(Qae 23 _ g7 23 _ _ (Qaa (Qaa r7_8 (Qah _)) hR) rfl kj kj (isz (n:=32) kj (izT (QaN _))))) <| QdH (.agg (ints .u8 (twA chain))) kj kj kj rfl (fun W hW=>(Qae 23 _ g8 23 _ _ hW rfl kj kj (isz (n:=32) kj (izT (QaJ _))))) <| Qb0 rfl <| Qb0 rfl <| QaY (.nilIface) kj kj rfl (fun _=>kj) <| QeY (hF _ kj fun W9 e9=>?_)
  simp only [zat,zau,fins,up]
  clear hF
  have r7_9:=(Qaa r7_8 e9)
  have r8_9:=(Qaa r8_8 e9)
  refine Qbv _ g7 _ (ints .u8 (twB chain)) 23 r7_9 rfl (Qag 23 _ _ g7 23 _ _ r7_9 rfl kj kj (isz (n:=32) kj (izT (QaN _))) (eqsz (n:=32) (izT (QaN _)) (izT (QaN _))) (ints_one _ _)) (fun W hp=>zbi hp r8_9 (Qap r7_1 l8)) fun W10 p10 r7_10=>?_
  have r8_10:=(zbi p10 r8_9 (Qap r7_1 l8))
  refine QeX _ g8 _ (ints .u8 (twA chain)) 23 r8_10 rfl (Qag 23 _ _ g8 23 _ _ r8_10 rfl kj kj (isz (n:=32) kj (izT (QaJ _))) (eqsz (n:=32) (izT (QaJ _)) (izT (QaJ _))) (ints_one _ _)) (fun W hp hrw=>hrw) fun W11 p11 r8_11=>Qd8 <| hK14 _ _ <| wp_ret ?_
  exact (show bodyPost _ _ _ .ret _ _ from ret3 (.agg (ints .u8 (twB chain))) (.agg (ints .u8 (twA chain))) (.nilIface) rfl (QaU g7 23 _ (zbi p11 r7_10 (Qad r7_1 l8)) kj kj (isz (n:=32) kj (izT (QaN _)))) (QaU g8 23 _ r8_11 kj kj (isz (n:=32) kj (izT (QaJ _)))) (Qa4 kj) ⟨rfl,(zbj p11 (zbj p10 (zbk (zbj p8 (zbj p7 (zbj p6 (zbj p5 (zbk (zbk (zbk x1 e2) e3) e4) b7) b8) b7) b8) e9) b7) b8)⟩)
end No
end
end Go.Proofs.YtlcjklafldaemaaGreatDoor
