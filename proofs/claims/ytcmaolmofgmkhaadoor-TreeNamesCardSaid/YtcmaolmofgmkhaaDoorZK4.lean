/- Texts of this claim, joined (K4). -/
import Derived.Test.YtcmaolmofgmkhaaDoorZK3
import Derived.RangeFuncWrites
import Derived.RangeFuncNested

set_option linter.unusedVariables false
set_option linter.unusedSimpArgs false
set_option maxHeartbeats 4000000
section
namespace Go.Proofs.YtcmaolmofgmkhaaDoor.Te
open Go Go.RowKit
open Rely Auto Own Seat Sha
structure UpOk (ts : List NdV) (L x : Nat) : Prop where
  nm:(ndi ts x).n.nm=0
  sg:(ndi ts x).n.sg=List.replicate 32 0
  inc:∀ k,k<(ndi ts x).n.ms.length→∀ j,j<k→nth (ndi ts x).n.ms j<nth (ndi ts x).n.ms k
  mem:∀ i∈(ndi ts x).n.ms,∃ m:Nat,i=((m:Nat):Int)∧m<L∧abv ((x:Nat):Int) (2*((m:Nat):Int)) ((L:Nat):Int)=true∧(ndi ts (2*m)).n.us=true∧∀ y:Nat,y<ts.length→y%2=1→y≠x→(ndi ts y).n.us=true→abv ((x:Nat):Int) ((y:Nat):Int) ((L:Nat):Int)=true→abv ((y:Nat):Int) (2*((m:Nat):Int)) ((L:Nat):Int)=true→((m:Nat):Int)∈(ndi ts y).n.ms
structure Form (ts : List NdV) (L : Nat) : Prop where
  tr:Qax ((L:Nat):Int)=true
  len:ts.length+1=2*L
  nms:∀ i j,i<L→j<L→(ndi ts (2*i)).n.us=true→(ndi ts (2*j)).n.us=true→(ndi ts (2*i)).n.nm=(ndi ts (2*j)).n.nm→i=j
  zero:∀ x,x<ts.length→(ndi ts x).n.us=false→(ndi ts x).n=zn.n
  leaf:∀ i,i<L→(ndi ts (2*i)).n.us=true→QaO (ndi ts (2*i)).n=true
  up:∀ x,x<ts.length→x%2=1→(ndi ts x).n.us=true→UpOk ts L x
theorem QiF {a b:NdC} (h:Qc0 a b=true):a=b:=by
  unfold Qc0 at h
  simp only [Bool.and_eq_true,beq_iff_eq,decide_eq_true_eq] at h
  obtain ⟨⟨⟨⟨⟨h1,h2⟩,h3⟩,h4⟩,h5⟩,h6⟩:=h
  cases a; cases b
  simp only at h1 h2 h3 h4 h5 h6
  subst h1; subst h2; subst h3; subst h4; subst h5; subst h6; rfl
theorem Qc6 {ts : List NdV} {n:Int}:∀ {k:Nat},n∈QaT ts k↔∃ i,i<k∧(ndi ts (2*i)).n.us=true∧(ndi ts (2*i)).n.nm=n
  | 0=>⟨fun h=>(by cases h),fun ⟨i,h,_⟩=>absurd h (Nat.not_lt_zero _)⟩
  | k+1=>by
    unfold QaT
    split
    · rename_i hu
      rw [List.mem_append,Qc6,List.mem_singleton]
      constructor
      · rintro (⟨i,h1,h2,h3⟩ | h)
        · exact ⟨i,by omega,h2,h3⟩
        · exact ⟨k,by omega,hu,h.symm⟩
      · rintro ⟨i,h1,h2,h3⟩
        by_cases e:i=k
        · subst e; exact .inr h3.symm
        · exact .inl ⟨i,by omega,h2,h3⟩
    · rename_i hu
      rw [Qc6]
      constructor
      · rintro ⟨i,h1,h2,h3⟩; exact ⟨i,by omega,h2,h3⟩
      · rintro ⟨i,h1,h2,h3⟩
        by_cases e:i=k
        · subst e; exact absurd h2 hu
        · exact ⟨i,by omega,h2,h3⟩
theorem QbW {ts : List NdV}:∀ {k:Nat},(QaT ts k).Nodup↔∀ i j,i<k→j<k→(ndi ts (2*i)).n.us=true→(ndi ts (2*j)).n.us=true→(ndi ts (2*i)).n.nm=(ndi ts (2*j)).n.nm→i=j
  | 0=>⟨fun _ i j h=>absurd h (Nat.not_lt_zero _),fun _=>List.nodup_nil⟩
  | k+1=>by
    constructor
    · intro h i j hi hj ui uj e
      have hk:(QaT ts k).Nodup:=by
        unfold QaT at h
        split at h
        · exact (List.nodup_append.1 h).1
        · exact h
      have key:∀ i,i<k→(ndi ts (2*i)).n.us=true→(ndi ts (2*k)).n.us=true→(ndi ts (2*i)).n.nm≠(ndi ts (2*k)).n.nm:=fun i hi ui uk e=>by
        unfold QaT at h
        rw [if_pos uk] at h
        exact (List.nodup_append.1 h).2.2 _ (Qc6.2 ⟨i,hi,ui,rfl⟩) _ (List.mem_singleton.2 rfl) e
      by_cases e1:i=k
      · by_cases e2:j=k
        · omega
        · exact absurd e.symm (key j (by omega) uj (e1▸ui) |> fun h q=>h (e1▸q))
      · by_cases e2:j=k
        · exact absurd e (key i (by omega) ui (e2▸uj) |> fun h q=>h (e2▸q))
        · exact QbW.1 hk i j (by omega) (by omega) ui uj e
    · intro h
      have hk:(QaT ts k).Nodup:=QbW.2 fun i j hi hj=>h i j (by omega) (by omega)
      unfold QaT
      split
      · rename_i hu
        refine QcH hk fun hm=>?_
        obtain ⟨i,hi,ui,e⟩:=Qc6.1 hm
        have:=h i k (by omega) (by omega) ui hu e
        omega
      · exact hk
theorem Qcf {L m:Nat} (hTr:Qax ((L:Nat):Int)=true) (h:m+1=2*L):leaves ((m:Nat):Int)=((L:Nat):Int):=by
  rcases (show (L=1∧m=1)∨(L=2∧m=3)∨(L=4∧m=7)∨(L=8∧m=15)∨(L=16∧m=31)∨(L=32∧m=63) by have:=Qav hTr; omega) with ⟨rfl,rfl⟩ | ⟨rfl,rfl⟩ | ⟨rfl,rfl⟩ | ⟨rfl,rfl⟩ | ⟨rfl,rfl⟩ | ⟨rfl,rfl⟩ <;> decide +kernel
theorem Qgk {ts : List NdV} {L x:Nat} (hlen:ts.length+1=2*L) (hx:Qau ((x:Nat):Int) ((L:Nat):Int)=true) (ho:x%2=1) (i:Int):Qbd ts ((L:Nat):Int) ((x:Nat):Int) i=true↔∃ m:Nat,i=((m:Nat):Int)∧m<L∧abv ((x:Nat):Int) (2*((m:Nat):Int)) ((L:Nat):Int)=true∧(ndi ts (2*m)).n.us=true∧∀ y:Nat,y<ts.length→y%2=1→y≠x→(ndi ts y).n.us=true→abv ((x:Nat):Int) ((y:Nat):Int) ((L:Nat):Int)=true→abv ((y:Nat):Int) (2*((m:Nat):Int)) ((L:Nat):Int)=true→((m:Nat):Int)∈(ndi ts y).n.ms:=by
  constructor
  · intro h
    have h0:=h
    unfold Qbd at h0
    simp only [Bool.and_eq_true,decide_eq_true_eq] at h0
    have hb:=Qcg hx
    obtain ⟨m,rfl⟩:=Int.eq_ofNat_of_zero_le (show 0≤i by omega)
    have hm:m<L:=by omega
    have ha:abv ((x:Nat):Int) (2*((m:Nat):Int)) ((L:Nat):Int)=true:=by
      rw [Qfj hx (by omega),decide_eq_true h0.1.1.1,decide_eq_true h0.1.1.2]; rfl
    refine ⟨m,rfl,hm,ha,?_,fun y hy hyo hyx hyu h1 h2=>?_⟩
    · have:=h0.1.2; rwa [show (2*((m:Nat):Int)).toNat=2*m by omega] at this
    · by_cases hm2:((m:Nat):Int)∈(ndi ts y).n.ms
      · exact hm2
      · have hyn:Qau ((y:Nat):Int) ((L:Nat):Int)=true:=by
          unfold abv at h2
          simp only [Bool.and_eq_true] at h2
          exact h2.1.1
        have:=QeK (ts:=ts) hx (by omega) (by omega) ha hyn (by omega) (by omega) h1 h2 hyu hm2
        rw [this] at h; cases h
  · rintro ⟨m,rfl,hm,ha,hu,hall⟩
    exact QdO hx (by omega) (by omega) ha hu fun y hy hyo hyx hyu h1 h2=>hall y (by omega) hyo (by omega) hyu h1 h2
theorem Qlw {ms : List Int} {i:Int}:i∈ms↔∃ k,k<ms.length∧nth ms k=i:=⟨QhJ,fun ⟨k,hk,e⟩=>by
  rw [←e]; unfold nth; rw [List.getD_eq_getElem?_getD,List.getElem?_eq_getElem hk]; exact List.getElem_mem hk⟩
theorem QgO {ts : List NdV} {L x:Nat} (hTr:Qax ((L:Nat):Int)=true) (hlen:ts.length+1=2*L) (hx:x<ts.length) (ho:x%2=1) (h:Qbj ts ((L:Nat):Int) x=true):UpOk ts L x:=by
  have hxn:Qau ((x:Nat):Int) ((L:Nat):Int)=true:=Qbb hTr (by omega)
  have hk:=Qi1 (by omega) h
  have h0:=h
  unfold Qbj at h0
  rw [if_neg (by omega)] at h0
  simp only [Bool.and_eq_true,decide_eq_true_eq] at h0
  refine ⟨h0.1.1,h0.1.2,rises fun k hk2=>?_,fun i hi=>?_⟩
  · have:=hk k hk2
    unfold msOk at this
    simp only [Bool.and_eq_true,Bool.or_eq_true,beq_iff_eq,decide_eq_true_eq] at this
    exact this.1
  · obtain ⟨k,hk2,rfl⟩:=QhJ hi
    have:=hk k hk2
    unfold msOk at this
    rw [Bool.and_eq_true] at this
    exact (Qgk hlen hxn ho _).1 this.2
theorem QgN {ts : List NdV} {L x:Nat} (hTr:Qax ((L:Nat):Int)=true) (hlen:ts.length+1=2*L) (hx:x<ts.length) (ho:x%2=1) (h:UpOk ts L x):Qbj ts ((L:Nat):Int) x=true:=by
  have hxn:Qau ((x:Nat):Int) ((L:Nat):Int)=true:=Qbb hTr (by omega)
  rw [Qbi (by omega) h.nm h.sg]
  refine Qf7 fun k hk=>?_
  unfold msOk
  rw [Bool.and_eq_true]
  refine ⟨?_,(Qgk hlen hxn ho _).2 (h.mem _ (Qlw.2 ⟨k,hk,rfl⟩))⟩
  rw [Bool.or_eq_true]
  by_cases e:k=0
  · exact .inl (by rw [e]; rfl)
  · exact .inr (decide_eq_true (h.inc k hk (k-1) (by omega)))
theorem QbG {ts : List NdV} (htl:ts.length≤100000) (h:chkT ts=true):∃ L:Nat,Form ts L∧anyU ts (L/2)=true:=by
  obtain ⟨L,hL,hL3,hlen,hTr⟩:=Qip htl h
  have hn:=fun x hx=>Qee hL h (x:=x) hx
  have h0:=h
  unfold chkT at h0
  rw [Qbx hL] at h0
  simp only [Bool.and_eq_true] at h0
  refine ⟨L,⟨hTr,hlen,?_,fun x hx hu=>?_,fun i hi hu=>?_,fun x hx ho hu=>QgO hTr hlen hx ho (QdP hL h hx hu)⟩,h0.1.2⟩
  · have:=h0.1.1.2
    unfold Qbs at this
    rw [show (ts.length+1)/2=L by omega] at this
    exact QbW.1 (of_decide_eq_true this)
  · have:=hn x hx
    unfold QaR at this
    rw [if_neg (by rw [hu]; decide)] at this
    exact QiF this
  · have:=QdP hL h (x:=2*i) (by omega) hu
    rwa [Qch (by omega)] at this
theorem Qgd {ts : List NdV} {L:Nat} (h:Form ts L) (hr:anyU ts (L/2)=true):chkT ts=true:=by
  have hL:=Qcf h.tr h.len
  have h1:L≠0:=by have:=Qav h.tr; omega
  have hd:Qbs ts=true:=by
    unfold Qbs
    rw [show (ts.length+1)/2=L by have:=h.len; omega]
    exact decide_eq_true (QbW.2 h.nms)
  rw [chk3 (Qbx hL) h1 hd hr]
  refine List.all_eq_true.2 fun x hx=>?_
  have hx:=List.mem_range.1 hx
  unfold QaR
  split
  · rename_i hu
    by_cases ho:x%2=1
    · exact QgN h.tr h.len hx ho (h.up x hx ho hu)
    · rw [Qch (by omega)]
      have:=h.leaf (x/2) (by have:=h.len; omega) (by rw [show 2*(x/2)=x by omega]; exact hu)
      rwa [show 2*(x/2)=x by omega] at this
  · rename_i hu
    rw [h.zero x hx (by simpa using hu)]
    exact QgT _
theorem Form.upd {ts rs:List NdV} {L m:Nat} {nd:NdC} (h:Form ts L) (hm:m<L) (hl:rs.length=ts.length) (hs:nd.us=true→QaO nd=true) (hz:nd.us=false→nd=zn.n) (hn:nd.us=true→∀ j,j<L→j≠m→(ndi ts (2*j)).n.us=true→(ndi ts (2*j)).n.nm≠nd.nm)
    (r1:(ndi rs (2*m)).n=nd) (r2:∀ x,x<ts.length→x%2=1→abv ((x:Nat):Int) (2*((m:Nat):Int)) ((L:Nat):Int)=true→(ndi rs x).n=zn.n) (r3:∀ x,x<ts.length→x%2=1→abv ((x:Nat):Int) (2*((m:Nat):Int)) ((L:Nat):Int)=false→(ndi rs x).n=(ndi ts x).n) (r4:∀ j,j<L→j≠m→(ndi rs (2*j)).n=(ndi ts (2*j)).n):Form rs L:=by
  have hlen:=h.len
  have odd:∀ x,x<ts.length→x%2=1→(ndi rs x).n.us=true→abv ((x:Nat):Int) (2*((m:Nat):Int)) ((L:Nat):Int)=false:=fun x hx ho hu=>by
    cases ha:abv ((x:Nat):Int) (2*((m:Nat):Int)) ((L:Nat):Int) with
    | false=>rfl
    | true=>rw [r2 x hx ho ha] at hu; cases hu
  refine ⟨h.tr,by rw [hl]; exact hlen,fun i j hi hj ui uj e=>?_,fun x hx hu=>?_,fun i hi hu=>?_,fun x hx ho hu=>?_⟩
  · by_cases e1:i=m
    · by_cases e2:j=m
      · omega
      · subst e1
        rw [r1] at ui e
        rw [r4 j hj e2] at uj e
        exact absurd e.symm (hn ui j hj e2 uj)
    · rw [r4 i hi e1] at ui e
      by_cases e2:j=m
      · subst e2
        rw [r1] at uj e
        exact absurd e (hn uj i hi e1 ui)
      · rw [r4 j hj e2] at uj e
        exact h.nms i j hi hj ui uj e
  · rw [hl] at hx
    by_cases ho:x%2=1
    · cases ha:abv ((x:Nat):Int) (2*((m:Nat):Int)) ((L:Nat):Int) with
      | true=>exact r2 x hx ho ha
      | false=>rw [r3 x hx ho ha] at hu ⊢; exact h.zero x hx hu
    · by_cases e:x/2=m
      · have e2:x=2*m:=by omega
        rw [e2,r1] at hu ⊢
        exact hz hu
      · have e2:x=2*(x/2):=by omega
        rw [e2,r4 _ (by omega) e] at hu ⊢
        exact h.zero _ (by omega) hu
  · by_cases e:i=m
    · subst e
      rw [r1] at hu ⊢
      exact hs hu
    · rw [r4 i hi e] at hu ⊢
      exact h.leaf i hi hu
  · rw [hl] at hx
    have ha:=odd x hx ho hu
    have ex:=r3 x hx ho ha
    rw [ex] at hu
    obtain ⟨u1,u2,u3,u4⟩:=h.up x hx ho hu
    refine ⟨by rw [ex]; exact u1,by rw [ex]; exact u2,by rw [ex]; exact u3,fun i hi=>?_⟩
    rw [ex] at hi
    obtain ⟨j,e,hj,ab,uj,hy⟩:=u4 i hi
    have hjm:j≠m:=fun q=>by rw [q,ha] at ab; cases ab
    refine ⟨j,e,hj,ab,by rw [r4 j hj hjm]; exact uj,fun y hy1 hy2 hy3 hy4 hy5 hy6=>?_⟩
    rw [hl] at hy1
    have ey:=r3 y hy1 hy2 (odd y hy1 hy2 hy4)
    rw [ey] at hy4 ⊢
    exact hy y hy1 hy2 hy3 hy4 hy5 hy6
end Go.Proofs.YtcmaolmofgmkhaaDoor.Te
end
section
namespace Go.Proofs.YtcmaolmofgmkhaaDoor.Te
open Go Go.RowKit
open Rely Auto Own Seat Sha
set_option maxRecDepth 100000 in
theorem Qjc : QbL (fun h x=>decide (16<h) || (bel x (2*h)==bel x h&&(List.range (2*h.toNat-1)).all fun y=>abv x ((y:Nat):Int) (2*h)==abv x ((y:Nat):Int) h))=true:=by decide +kernel
theorem QcS {x y h:Nat} (hx:Qau ((x:Nat):Int) ((h:Nat):Int)=true) (h16:h≤16) (hy:y+1<2*h):bel ((x:Nat):Int) ((2*h:Nat):Int)=bel ((x:Nat):Int) ((h:Nat):Int)∧abv ((x:Nat):Int) ((y:Nat):Int) ((2*h:Nat):Int)=abv ((x:Nat):Int) ((y:Nat):Int) ((h:Nat):Int):=by
  have:=QaS Qjc hx
  rw [decide_eq_false (by omega),Bool.false_or,Bool.and_eq_true] at this
  have e:2*((h:Nat):Int)=((2*h:Nat):Int):=by omega
  rw [e] at this
  exact ⟨eq_of_beq this.1,eq_of_beq (List.all_eq_true.1 this.2 y (List.mem_range.2 (by omega)))⟩
theorem Qi7 {h : Nat} (h1:1≤h) (hT:Qax ((2*h:Nat):Int)=true):Qax ((h:Nat):Int)=true∧h≤16:=by
  rcases (show h=1∨h=2∨h=4∨h=8∨h=16 by have:=Qav hT; omega) with rfl | rfl | rfl | rfl | rfl <;> exact ⟨by decide,by decide⟩
theorem Form.half {ts : List NdV} {h:Nat} (f:Form ts (2*h)) (h1:1≤h):Form (ts.take (2*h-1)) h:=by
  obtain ⟨hT,h16⟩:=Qi7 h1 f.tr
  have hlen:=f.len
  have hl:(ts.take (2*h-1)).length=2*h-1:=by rw [List.length_take]; omega
  have at_:∀ x,x<2*h-1→ndi (ts.take (2*h-1)) x=ndi ts x:=fun x hx=>Qb3 hx
  refine ⟨hT,by omega,fun i j hi hj ui uj e=>?_,fun x hx hu=>?_,fun i hi hu=>?_,fun x hx ho hu=>?_⟩
  · rw [at_ _ (by omega)] at ui e
    rw [at_ _ (by omega)] at uj e
    exact f.nms i j (by omega) (by omega) ui uj e
  · rw [hl] at hx
    rw [at_ x hx] at hu ⊢
    exact f.zero x (by omega) hu
  · rw [at_ _ (by omega)] at hu ⊢
    exact f.leaf i (by omega) hu
  · rw [hl] at hx
    have hxn:Qau ((x:Nat):Int) ((h:Nat):Int)=true:=Qbb hT (by omega)
    have hxn2:Qau ((x:Nat):Int) ((2*h:Nat):Int)=true:=Qbb f.tr (by omega)
    have ex:=at_ x hx
    rw [ex] at hu
    obtain ⟨u1,u2,u3,u4⟩:=f.up x (by omega) ho hu
    refine ⟨by rw [ex]; exact u1,by rw [ex]; exact u2,by rw [ex]; exact u3,fun i hi=>?_⟩
    rw [ex] at hi
    obtain ⟨j,e,hj,ab,uj,hy⟩:=u4 i hi
    have hjh:j<h:=by
      rw [Qfj hxn2 (by omega),(QcS hxn h16 (y:=0) (by omega)).1,Bool.and_eq_true,decide_eq_true_eq,decide_eq_true_eq] at ab
      have:=Qcg hxn
      omega
    have e2:2*((j:Nat):Int)=((2*j:Nat):Int):=by omega
    refine ⟨j,e,hjh,?_,by rw [at_ _ (by omega)]; exact uj,fun y hy1 hy2 hy3 hy4 hy5 hy6=>?_⟩
    · rw [e2,(QcS hxn h16 (by omega)).2,←e2] at ab; exact ab
    · rw [hl] at hy1
      have hyn:Qau ((y:Nat):Int) ((h:Nat):Int)=true:=Qbb hT (by omega)
      rw [at_ y hy1] at hy4 ⊢
      rw [←(QcS hxn h16 (by omega)).2] at hy5
      rw [e2,←(QcS hyn h16 (by omega)).2,←e2] at hy6
      exact hy y (by omega) hy2 hy3 hy4 hy5 hy6
theorem Form.dbl {ts : List NdV} {h:Nat} (f:Form ts h) (h16:h≤16):Form (ts++List.replicate (ts.length+1) zn) (2*h):=by
  have hlen:=f.len
  have hT2:Qax ((2*h:Nat):Int)=true:=by
    rcases (show h=1∨h=2∨h=4∨h=8∨h=16 by have:=Qav f.tr; omega) with rfl | rfl | rfl | rfl | rfl <;> decide
  have hl:(ts++List.replicate (ts.length+1) zn).length=2*ts.length+1:=by rw [List.length_append,qZ]; omega
  have at_:∀ x,x<ts.length→ndi (ts++List.replicate (ts.length+1) zn) x=ndi ts x:=fun x hx=>by rw [Qbq,if_pos hx]
  have az:∀ x,ts.length≤x→x<2*ts.length+1→ndi (ts++List.replicate (ts.length+1) zn) x=zn:=fun x hx hx2=>by rw [Qbq,if_neg (by omega),QbD zn (by omega)]
  have old:∀ x,x<2*ts.length+1→(ndi (ts++List.replicate (ts.length+1) zn) x).n.us=true→x<ts.length:=fun x hx hu=>by
    rcases Nat.lt_or_ge x ts.length with h | h
    · exact h
    · rw [az x h hx] at hu; cases hu
  refine ⟨hT2,by omega,fun i j hi hj ui uj e=>?_,fun x hx hu=>?_,fun i hi hu=>?_,fun x hx ho hu=>?_⟩
  · have q1:=old _ (by omega) ui
    have q2:=old _ (by omega) uj
    rw [at_ _ q1] at ui e
    rw [at_ _ q2] at uj e
    exact f.nms i j (by omega) (by omega) ui uj e
  · rw [hl] at hx
    rcases Nat.lt_or_ge x ts.length with q | q
    · rw [at_ x q] at hu ⊢; exact f.zero x q hu
    · rw [az x q hx]
  · have q1:=old _ (by omega) hu
    rw [at_ _ q1] at hu ⊢
    exact f.leaf i (by omega) hu
  · rw [hl] at hx
    have q1:=old x hx hu
    have hxn:Qau ((x:Nat):Int) ((h:Nat):Int)=true:=Qbb f.tr (by omega)
    have ex:=at_ x q1
    rw [ex] at hu
    obtain ⟨u1,u2,u3,u4⟩:=f.up x q1 ho hu
    refine ⟨by rw [ex]; exact u1,by rw [ex]; exact u2,by rw [ex]; exact u3,fun i hi=>?_⟩
    rw [ex] at hi
    obtain ⟨j,e,hj,ab,uj,hy⟩:=u4 i hi
    have e2:2*((j:Nat):Int)=((2*j:Nat):Int):=by omega
    refine ⟨j,e,by omega,?_,by rw [at_ _ (by omega)]; exact uj,fun y hy1 hy2 hy3 hy4 hy5 hy6=>?_⟩
    · rw [e2,(QcS hxn h16 (by omega)).2,←e2]; exact ab
    · rw [hl] at hy1
      have q2:=old y hy1 hy4
      have hyn:Qau ((y:Nat):Int) ((h:Nat):Int)=true:=Qbb f.tr (by omega)
      rw [at_ y q2] at hy4 ⊢
      rw [(QcS hxn h16 (by omega)).2] at hy5
      rw [e2,(QcS hyn h16 (by omega)).2,←e2] at hy6
      exact hy y q2 hy2 hy3 hy4 hy5 hy6
theorem QeX {xs : List Int} {x j:Int} {c:Nat}:j∈insA xs c x↔j=x∨j∈xs:=by
  unfold insA
  rw [List.mem_append,List.mem_append,List.mem_singleton]
  constructor
  · rintro ((h | h) | h)
    · exact .inr (List.mem_of_mem_take h)
    · exact .inl h
    · exact .inr (List.mem_of_mem_drop h)
  · rintro (h | h)
    · exact .inl (.inr h)
    · rw [←List.take_append_drop c xs,List.mem_append] at h
      rcases h with h | h
      · exact .inl (.inl h)
      · exact .inr h
theorem Qlt {ms : List Int} (h:∀ k,k<ms.length→∀ j,j<k→nth ms j<nth ms k):ms.Pairwise (· < ·):=by
  rw [List.pairwise_iff_getElem]
  intro i j hi hj hij
  have h1:=h j hj i hij
  unfold nth at h1
  rw [List.getD_eq_getElem?_getD,List.getD_eq_getElem?_getD,List.getElem?_eq_getElem hi,List.getElem?_eq_getElem hj] at h1
  exact h1
theorem Qlv {ms : List Int} (h:ms.Pairwise (· < ·)):∀ k,k<ms.length→∀ j,j<k→nth ms j<nth ms k:=fun k hk j hj=>by
  have:=List.pairwise_iff_getElem.1 h j k (by omega) hk hj
  unfold nth
  rw [List.getD_eq_getElem?_getD,List.getD_eq_getElem?_getD,List.getElem?_eq_getElem hk,List.getElem?_eq_getElem (show j<ms.length by omega)]
  exact this
theorem QeA {xs : List Int} {x:Int} (h:xs.Pairwise (· < ·)) (hx:x∉xs):(insA xs (posI xs x) x).Pairwise (· < ·):=by
  have h1:=QeB x (h.imp fun q=>Int.le_of_lt q)
  have h2:(insA xs (posI xs x) x).Nodup:=by
    have hn:xs.Nodup:=List.nodup_iff_pairwise_ne.2 (h.imp fun q=>by omega)
    unfold insA
    rw [List.append_assoc]
    have e:=List.take_append_drop (posI xs x) xs
    rw [←e] at hn hx
    rw [List.nodup_append] at hn ⊢
    rw [List.mem_append,not_or] at hx
    refine ⟨hn.1,?_,fun a ha b hb=>?_⟩
    · rw [List.singleton_append,List.nodup_cons]
      exact ⟨hx.2,hn.2.1⟩
    · rw [List.singleton_append,List.mem_cons] at hb
      rcases hb with rfl | hb
      · exact fun e=>hx.1 (e▸ha)
      · exact hn.2.2 a ha b hb
  exact (h1.and (List.nodup_iff_pairwise_ne.1 h2)).imp fun q=>by omega
theorem Form.add {ts rs:List NdV} {L m:Nat} {nd:NdC} (h:Form ts L) (hm:m<L) (hf:(ndi ts (2*m)).n.us=false) (hl:rs.length=ts.length) (hs:QaO nd=true) (hn:∀ j,j<L→(ndi ts (2*j)).n.us=true→(ndi ts (2*j)).n.nm≠nd.nm)
    (r1:(ndi rs (2*m)).n=nd) (r2:∀ x,x<ts.length→x%2=1→(ndi ts x).n.us=true→abv ((x:Nat):Int) (2*((m:Nat):Int)) ((L:Nat):Int)=true→(ndi rs x).n={ (ndi ts x).n with ms:=insA (ndi ts x).n.ms (posI (ndi ts x).n.ms ((m:Nat):Int)) ((m:Nat):Int) })
    (r3:∀ x,x<ts.length→x%2=1→((ndi ts x).n.us=false∨abv ((x:Nat):Int) (2*((m:Nat):Int)) ((L:Nat):Int)=false)→(ndi rs x).n=(ndi ts x).n) (r4:∀ j,j<L→j≠m→(ndi rs (2*j)).n=(ndi ts (2*j)).n):Form rs L:=by
  have hlen:=h.len
  have hus:nd.us=true:=by unfold QaO at hs; simp only [Bool.and_eq_true] at hs; exact hs.1.1.1
  have odd:∀ x,x<ts.length→x%2=1→(ndi rs x).n.us=(ndi ts x).n.us:=fun x hx ho=>by
    cases hu:(ndi ts x).n.us with
    | false=>rw [r3 x hx ho (.inl hu)]; exact hu
    | true =>
      cases ha:abv ((x:Nat):Int) (2*((m:Nat):Int)) ((L:Nat):Int) with
      | false=>rw [r3 x hx ho (.inr ha)]; exact hu
      | true=>rw [r2 x hx ho hu ha]; exact hu
  have more:∀ y,y<ts.length→y%2=1→∀ j:Int,j∈(ndi ts y).n.ms→j∈(ndi rs y).n.ms:=fun y hy ho j hj=>by
    cases hu:(ndi ts y).n.us with
    | false=>rw [r3 y hy ho (.inl hu)]; exact hj
    | true =>
      cases ha:abv ((y:Nat):Int) (2*((m:Nat):Int)) ((L:Nat):Int) with
      | false=>rw [r3 y hy ho (.inr ha)]; exact hj
      | true=>rw [r2 y hy ho hu ha]; exact QeX.2 (.inr hj)
  have lus:∀ j,j<L→(ndi ts (2*j)).n.us=true→(ndi rs (2*j)).n.us=true:=fun j hj hu=>by
    rw [r4 j hj fun e=>by rw [e,hf] at hu; cases hu]; exact hu
  refine ⟨h.tr,by rw [hl]; exact hlen,fun i j hi hj ui uj e=>?_,fun x hx hu=>?_,fun i hi hu=>?_,fun x hx ho hu=>?_⟩
  · by_cases e1:i=m
    · by_cases e2:j=m
      · omega
      · subst e1
        rw [r1] at e
        rw [r4 j hj e2] at uj e
        exact absurd e.symm (hn j hj uj)
    · rw [r4 i hi e1] at ui e
      by_cases e2:j=m
      · subst e2
        rw [r1] at e
        exact absurd e (hn i hi ui)
      · rw [r4 j hj e2] at uj e
        exact h.nms i j hi hj ui uj e
  · rw [hl] at hx
    by_cases ho:x%2=1
    · rw [odd x hx ho] at hu
      rw [r3 x hx ho (.inl hu)]
      exact h.zero x hx hu
    · by_cases e:x/2=m
      · have e2:x=2*m:=by omega
        rw [e2,r1,hus] at hu
        cases hu
      · have e2:x=2*(x/2):=by omega
        rw [e2,r4 _ (by omega) e] at hu ⊢
        exact h.zero _ (by omega) hu
  · by_cases e:i=m
    · subst e; rw [r1]; exact hs
    · rw [r4 i hi e] at hu ⊢
      exact h.leaf i hi hu
  · rw [hl] at hx
    rw [odd x hx ho] at hu
    have hxn:Qau ((x:Nat):Int) ((L:Nat):Int)=true:=Qbb h.tr (by omega)
    obtain ⟨u1,u2,u3,u4⟩:=h.up x hx ho hu
    have oldm:∀ i∈(ndi ts x).n.ms,∃ j:Nat,i=((j:Nat):Int)∧j<L∧abv ((x:Nat):Int) (2*((j:Nat):Int)) ((L:Nat):Int)=true∧(ndi rs (2*j)).n.us=true∧∀ y:Nat,y<rs.length→y%2=1→y≠x→(ndi rs y).n.us=true→abv ((x:Nat):Int) ((y:Nat):Int) ((L:Nat):Int)=true→abv ((y:Nat):Int) (2*((j:Nat):Int)) ((L:Nat):Int)=true→((j:Nat):Int)∈(ndi rs y).n.ms:=fun i hi=>by
      obtain ⟨j,e,hj,ab,uj,hy⟩:=u4 i hi
      refine ⟨j,e,hj,ab,lus j hj uj,fun y hy1 hy2 hy3 hy4 hy5 hy6=>?_⟩
      rw [hl] at hy1
      rw [odd y hy1 hy2] at hy4
      exact more y hy1 hy2 _ (hy y hy1 hy2 hy3 hy4 hy5 hy6)
    cases ha:abv ((x:Nat):Int) (2*((m:Nat):Int)) ((L:Nat):Int) with
    | false =>
      have ex:=r3 x hx ho (.inr ha)
      exact ⟨by rw [ex]; exact u1,by rw [ex]; exact u2,by rw [ex]; exact u3,fun i hi=>oldm i (by rw [ex] at hi; exact hi)⟩
    | true =>
      have ex:=r2 x hx ho hu ha
      have hmm:((m:Nat):Int)∉(ndi ts x).n.ms:=fun hi=>by
        obtain ⟨j,e,hj,ab,uj,-⟩:=u4 _ hi
        obtain rfl:m=j:=by omega
        rw [hf] at uj; cases uj
      refine ⟨by rw [ex]; exact u1,by rw [ex]; exact u2,by rw [ex]; exact Qlv (QeA (Qlt u3) hmm),fun i hi=>?_⟩
      rw [ex] at hi
      rcases QeX.1 hi with rfl | hi
      · refine ⟨m,rfl,hm,ha,by rw [r1]; exact hus,fun y hy1 hy2 hy3 hy4 hy5 hy6=>?_⟩
        rw [hl] at hy1
        rw [odd y hy1 hy2] at hy4
        rw [r2 y hy1 hy2 hy4 hy6]
        exact QeX.2 (.inl rfl)
      · exact oldm i hi
end Go.Proofs.YtcmaolmofgmkhaaDoor.Te
end
section
namespace Go.Proofs.YtcmaolmofgmkhaaDoor.Te
open Go Go.RowKit
open Rely Auto Own Seat Sha
def pthL (y n:Int):List Nat:=(List.range 6).filter fun k=>decide (0≤upn y n k)
theorem QjT : QbL (fun n x=>(List.range 6).all fun a=>(List.range 6).all fun b=>a==b || decide (upn x n a<0) || !(upn x n a==upn x n b))=true:=by decide +kernel
theorem QcY {y n:Int} {k:Nat}:k∈pthL y n↔k<6∧0≤upn y n k:=by unfold pthL; rw [List.mem_filter,List.mem_range,decide_eq_true_eq]
theorem Qhk {y n:Int} (hy:Qau y n=true) {a b:Nat} (ha:a<6) (hb:b<6) (h:0≤upn y n a) (e:upn y n a=upn y n b):a=b:=by
  have:=List.all_eq_true.1 (List.all_eq_true.1 (QaS QjT hy) a (List.mem_range.2 ha)) b (List.mem_range.2 hb)
  rw [e,beq_self_eq_true,Bool.not_true,Bool.or_false,Bool.or_eq_true,beq_iff_eq,decide_eq_true_eq] at this
  omega
theorem Qed {f : Nat→Nat}:∀ {l:List Nat},l.Nodup→(∀ a∈l,∀ b∈l,f a=f b→a=b)→(l.map f).Nodup
  | [],_,_=>List.nodup_nil
  | x::r,h,hf=>by
    rw [List.nodup_cons] at h
    rw [List.map_cons,List.nodup_cons]
    refine ⟨fun hm=>?_,Qed h.2 fun a ha b hb=>hf a (List.mem_cons_of_mem _ ha) b (List.mem_cons_of_mem _ hb)⟩
    obtain ⟨z,hz,e⟩:=List.mem_map.1 hm
    exact h.1 (hf z (List.mem_cons_of_mem _ hz) x List.mem_cons_self e▸hz)
theorem QhD {y n:Int} (hy:Qau y n=true):((pthL y n).map (upN y n)).Nodup:=by
  refine Qed ?_ fun a ha b hb e=>?_
  · unfold pthL; exact List.Pairwise.filter _ List.nodup_range
  · have h1:=QcY.1 ha
    have h2:=QcY.1 hb
    have e1:=Qb8 h1.2
    have e2:=Qb8 h2.2
    exact Qhk hy h1.1 h2.1 h1.2 (by omega)
theorem QhF {L m x:Nat} (hTr:Qax ((L:Nat):Int)=true) (hm:m<L) (hx:x+1<2*L) (ho:x%2=1):x∈(pthL (2*((m:Nat):Int)) ((L:Nat):Int)).map (upN (2*((m:Nat):Int)) ((L:Nat):Int))↔abv ((x:Nat):Int) (2*((m:Nat):Int)) ((L:Nat):Int)=true:=by
  rw [Qiw (Qbb hTr hx) (by omega) (by omega),List.any_eq_true]
  constructor
  · intro h
    obtain ⟨k,hk,e⟩:=List.mem_map.1 h
    have h1:=QcY.1 hk
    have:=Qb8 h1.2
    exact ⟨k,List.mem_range.2 h1.1,by rw [Bool.and_eq_true,decide_eq_true_eq,beq_iff_eq]; exact ⟨h1.2,by omega⟩⟩
  · rintro ⟨k,hk,e⟩
    rw [Bool.and_eq_true,decide_eq_true_eq,beq_iff_eq] at e
    have:=Qb8 e.1
    exact List.mem_map.2 ⟨k,QcY.2 ⟨List.mem_range.1 hk,e.1⟩,by omega⟩
theorem QiP {y n:Int} {x:Nat} (he:x%2=0):x∉(pthL y n).map (upN y n):=fun h=>by
  obtain ⟨k,hk,e⟩:=List.mem_map.1 h
  have h1:=QcY.1 hk
  have:=Qb8 h1.2
  have:=QcL h1.2
  omega
theorem QhE {y n:Int} {M:Nat} (hTr:Qax n=true) (hl:((M:Nat):Int)+1=2*n) (z:Nat):upN y n z<M:=by have:=Qdz (x:=y) z hTr; omega
theorem Qir {y n:Int}:∀ (pre:List Nat) (us:List NdV) (x:Nat),x<us.length→x∈pre.map (upN y n)→ndi (blkL us y n pre) x=zn
  | [],us,x,hx,h=>by cases h
  | z::r,us,x,hx,h=>by
    show ndi (blkL (us.set (upN y n z) zn) y n r) x=zn
    by_cases hr:x∈r.map (upN y n)
    · exact Qir r _ x (by rw [List.length_set]; exact hx) hr
    · rw [List.map_cons,List.mem_cons] at h
      have e:x=upN y n z:=h.resolve_right hr
      rw [Qfh y n x r _ fun w hw q=>hr (q▸List.mem_map.2 ⟨w,hw,rfl⟩),e,QaC _ (by omega),if_pos rfl]
theorem QgF {L m x:Nat} {us:List NdV} (hTr:Qax ((L:Nat):Int)=true) (hl:us.length+1=2*L) (hm:m<L) (hx:x<us.length) (ho:x%2=1):ndi (blkT us (2*((m:Nat):Int)) ((L:Nat):Int)) x=if abv ((x:Nat):Int) (2*((m:Nat):Int)) ((L:Nat):Int)=true then zn else ndi us x:=by
  have hi:=QhF hTr hm (show x+1<2*L by omega) ho
  split
  · rename_i h; exact Qir _ us x hx (hi.2 h)
  · rename_i h
    exact Qfh _ _ x _ us fun z hz e=>h (hi.1 (e▸List.mem_map.2 ⟨z,hz,rfl⟩))
def insC (n : NdC) (i:Int):NdC:={ n with ms:=insA n.ms (posI n.ms i) i }
theorem Qfc {y n i:Int}:∀ (pre:List Nat) (us:List NdV),(∀ z∈pre,upN y n z<us.length)→(pre.map (upN y n)).Nodup→∀ x,(ndi (insL us y n i pre) x).n=if x∈pre.map (upN y n)∧(ndi us x).n.us=true then insC (ndi us x).n i else (ndi us x).n
  | [],us,_,_,x=>by rw [if_neg (by simp)]; rfl
  | z::r,us,hlt,hnd,x=>by
    rw [List.map_cons,List.nodup_cons] at hnd
    show (ndi (insL (Qci y n i us z) y n i r) x).n=_
    rw [Qfc r (Qci y n i us z) (fun w hw=>by rw [Qcz]; exact hlt w (List.mem_cons_of_mem _ hw)) hnd.2 x]
    have hz:=hlt z List.mem_cons_self
    by_cases e:x=upN y n z
    · subst e
      rw [if_neg fun q=>hnd.1 q.1]
      unfold Qci
      cases hu:(ndi us (upN y n z)).n.us with
      | true=>rw [if_pos rfl,QaC _ hz,if_pos rfl,if_pos ⟨by rw [List.map_cons]; exact List.mem_cons_self,rfl⟩]; rfl
      | false=>rw [if_neg (by decide),if_neg (by simp)]
    · have e2:ndi (Qci y n i us z) x=ndi us x:=by
        unfold Qci
        split
        · rw [QaC _ hz,if_neg e]
        · rfl
      rw [e2,List.map_cons]
      have e3:(x∈r.map (upN y n)∧(ndi us x).n.us=true)↔(x∈upN y n z::r.map (upN y n)∧(ndi us x).n.us=true):=by rw [List.mem_cons]; simp [e]
      by_cases q:x∈r.map (upN y n)∧(ndi us x).n.us=true
      · rw [if_pos q,if_pos (e3.1 q)]
      · rw [if_neg q,if_neg fun p=>q (e3.2 p)]
theorem Qja {L m:Nat} {us:List NdV} (hTr:Qax ((L:Nat):Int)=true) (hl:us.length+1=2*L) (hm:m<L) (x:Nat):(ndi (insT us (2*((m:Nat):Int)) ((L:Nat):Int) ((m:Nat):Int)) x).n=if x∈(pthL (2*((m:Nat):Int)) ((L:Nat):Int)).map (upN (2*((m:Nat):Int)) ((L:Nat):Int))∧(ndi us x).n.us=true then insC (ndi us x).n ((m:Nat):Int) else (ndi us x).n :=
  Qfc _ us (fun z _=>QhE hTr (by omega) z) (QhD (Qei hTr (by omega) (by omega))) x
def QfH (R : List NdV):Prop:=∃ L,Form R L∧anyU R (L/2)=true
theorem QgE : ∀ (k:Nat) (rs:List NdV) (L:Nat),Form rs L→anyU rs 0=true→L≤2^k→QfH (cutT k rs)
  | 0,rs,L,f,h,hk=>by
    have:=Qav f.tr
    obtain rfl:L=1:=by omega
    exact ⟨_,f,h⟩
  | k+1,rs,L,f,h,hk=>by
    have hL:=Qbx (Qcf f.tr f.len)
    cases hu:anyU rs (L/2) with
    | true=>rw [QdL hL hu]; exact ⟨_,f,hu⟩
    | false =>
      have h2:2≤L∧L%2=0:=by
        have:=Qav f.tr
        rcases (show L=1∨(2≤L∧L%2=0) by omega) with e | e
        · subst e; rw [show 1/2=0 from rfl,h] at hu; cases hu
        · exact e
      obtain ⟨j,rfl⟩:∃ j,L=2*j:=⟨L/2,by omega⟩
      have hlen:=f.len
      rw [Qdg hL (Nat.succ_pos _) hu]
      show QfH (cutT k (rs.take (rs.length/2)))
      have ht:=Qdi f.len h2.2 h hu
      rw [show rs.length/2=2*j-1 by omega] at ht ⊢
      exact QgE k _ j (f.half (by omega)) ht (by rw [Nat.pow_succ] at hk; omega)
theorem QkM {ts : List NdV} {L m j:Nat} (f:Form ts L) (hm:m<L) (hj:j<L) (hjm:j≠m) (huj:(ndi ts (2*j)).n.us=true):QfH (remT ts m L):=by
  have hlen:=f.len
  have hl:(ts.set (2*m) zn).length=ts.length:=List.length_set ..
  have ev:∀ j,j<L→ndi (blkT (ts.set (2*m) zn) (2*((m:Nat):Int)) ((L:Nat):Int)) (2*j)=if j=m then zn else ndi ts (2*j):=fun j hj=>by
    rw [Qdh,QaC zn (by omega)]
    by_cases e:j=m
    · rw [if_pos (by omega),if_pos e]
    · rw [if_neg (by omega),if_neg e]
  have od:∀ x,x<ts.length→x%2=1→ndi (blkT (ts.set (2*m) zn) (2*((m:Nat):Int)) ((L:Nat):Int)) x=if abv ((x:Nat):Int) (2*((m:Nat):Int)) ((L:Nat):Int)=true then zn else ndi ts x:=fun x hx ho=>by
    rw [QgF f.tr (by omega) hm (by omega) ho,QaC zn (by omega),if_neg (show x≠2*m by omega)]
  have F:Form (blkT (ts.set (2*m) zn) (2*((m:Nat):Int)) ((L:Nat):Int)) L:=f.upd (nd:=zn.n) hm (by rw [Qcv,hl]) (fun q=>by cases q) (fun _=>rfl) (fun q=>by cases q) (by rw [ev m hm,if_pos rfl]) (fun x hx ho ha=>by rw [od x hx ho,if_pos ha]) (fun x hx ho ha=>by rw [od x hx ho,if_neg (by rw [ha]; decide)]) (fun j hj hjm=>by rw [ev j hj,if_neg hjm])
  have hk:L≤2^ts.length:=qT (Nat.le_of_lt Nat.lt_two_pow_self) (Nat.pow_le_pow_right (by decide) (by omega))
  exact QgE ts.length _ L F (QbK.2 ⟨j,Nat.zero_le _,by rw [Qcv,hl]; omega,by rw [ev j hj,if_neg hjm]; exact huj⟩) hk
theorem QdK {us : List NdV} {L m:Nat} {nd:NdV} (f:Form us L) (hm:m<L) (hf:(ndi us (2*m)).n.us=false) (hs:QaO nd.n=true) (hn:∀ j,j<L→(ndi us (2*j)).n.us=true→(ndi us (2*j)).n.nm≠nd.n.nm):Form (insT (us.set (2*m) nd) (2*((m:Nat):Int)) ((L:Nat):Int) ((m:Nat):Int)) L∧∀ j,j<L→(ndi (insT (us.set (2*m) nd) (2*((m:Nat):Int)) ((L:Nat):Int) ((m:Nat):Int)) (2*j)).n=if j=m then nd.n else (ndi us (2*j)).n:=by
  have hlen:=f.len
  have hl:(us.set (2*m) nd).length=us.length:=List.length_set ..
  have at_:=fun x=>Qja (us:=us.set (2*m) nd) f.tr (by omega) hm x
  have ev:∀ j,j<L→(ndi (insT (us.set (2*m) nd) (2*((m:Nat):Int)) ((L:Nat):Int) ((m:Nat):Int)) (2*j)).n=if j=m then nd.n else (ndi us (2*j)).n:=fun j hj=>by
    rw [at_,if_neg (fun q=>QiP (by omega) q.1),QaC nd (by omega)]
    by_cases e:j=m
    · rw [if_pos (by omega),if_pos e]
    · rw [if_neg (by omega),if_neg e]
  have od:∀ x,x<us.length→x%2=1→(ndi (insT (us.set (2*m) nd) (2*((m:Nat):Int)) ((L:Nat):Int) ((m:Nat):Int)) x).n=if abv ((x:Nat):Int) (2*((m:Nat):Int)) ((L:Nat):Int)=true∧(ndi us x).n.us=true then insC (ndi us x).n ((m:Nat):Int) else (ndi us x).n:=fun x hx ho=>by
    rw [at_,QaC nd (by omega),if_neg (show x≠2*m by omega)]
    have hi:=QhF f.tr hm (show x+1<2*L by omega) ho
    by_cases q:abv ((x:Nat):Int) (2*((m:Nat):Int)) ((L:Nat):Int)=true∧(ndi us x).n.us=true
    · rw [if_pos q,if_pos ⟨hi.2 q.1,q.2⟩]
    · rw [if_neg q,if_neg fun p=>q ⟨hi.1 p.1,p.2⟩]
  refine ⟨f.add (nd:=nd.n) hm hf ?_ hs hn (by rw [ev m hm,if_pos rfl]) (fun x hx ho hu ha=>by rw [od x hx ho,if_pos ⟨ha,hu⟩]; rfl) (fun x hx ho q=>by
    rw [od x hx ho,if_neg]
    rintro ⟨q1,q2⟩
    rcases q with q | q
    · rw [q] at q2; cases q2
    · rw [q] at q1; cases q1) (fun j hj hjm=>by rw [ev j hj,if_neg hjm]),ev⟩
  unfold insT
  rw [Qby,hl]
theorem Qjp {ts : List NdV} {L m:Nat} {nd:NdV} (f:Form ts L) (hr:anyU ts (L/2)=true) (hm:m<L) (hf:(ndi ts (2*m)).n.us=false) (hs:QaO nd.n=true) (hn:∀ j,j<L→(ndi ts (2*j)).n.us=true→(ndi ts (2*j)).n.nm≠nd.n.nm):QfH (addT ts m nd L):=by
  have hlen:=f.len
  unfold addT
  rw [if_pos (by omega)]
  obtain ⟨F,ev⟩:=QdK f hm hf hs hn
  refine ⟨_,F,?_⟩
  obtain ⟨j,h1,h2,h3⟩:=QbK.1 hr
  have hl:(insT (ts.set (2*m) nd) (2*((m:Nat):Int)) ((L:Nat):Int) ((m:Nat):Int)).length=ts.length:=by unfold insT; rw [Qby,List.length_set]
  refine QbK.2 ⟨j,h1,by rw [hl]; exact h2,?_⟩
  rw [ev j (by omega),if_neg fun e=>by rw [e,hf] at h3; cases h3]
  exact h3
theorem Qjo {ts : List NdV} {L:Nat} {nd:NdV} (f:Form ts L) (h16:L≤16) (hs:QaO nd.n=true) (hn:∀ j,j<L→(ndi ts (2*j)).n.us=true→(ndi ts (2*j)).n.nm≠nd.n.nm):QfH (addT ts L nd (2*L)):=by
  have hlen:=f.len
  have h1:1≤L:=by have:=Qav f.tr; omega
  unfold addT
  rw [if_neg (by omega)]
  have D:=f.dbl h16
  have hl0:(ts++List.replicate (ts.length+1) zn).length=2*ts.length+1:=by rw [List.length_append,qZ]; omega
  have az:∀ x,ts.length≤x→x<2*ts.length+1→ndi (ts++List.replicate (ts.length+1) zn) x=zn:=fun x hx hx2=>by rw [Qbq,if_neg (by omega),QbD zn (by omega)]
  have hf:(ndi (ts++List.replicate (ts.length+1) zn) (2*L)).n.us=false:=by rw [az _ (by omega) (by omega)]; rfl
  obtain ⟨F,ev⟩:=QdK (nd:=nd) D (show L<2*L by omega) hf hs (fun j hj hu=>by
    rcases Nat.lt_or_ge (2*j) ts.length with q | q
    · rw [Qbq,if_pos q] at hu ⊢
      exact hn j (by omega) hu
    · rw [az _ q (by omega)] at hu; cases hu)
  refine ⟨_,F,?_⟩
  have hl:(insT ((ts++List.replicate (ts.length+1) zn).set (2*L) nd) (2*((L:Nat):Int)) ((2*L:Nat):Int) ((L:Nat):Int)).length=2*ts.length+1:=by unfold insT; rw [Qby,List.length_set,hl0]
  refine QbK.2 ⟨L,by omega,by rw [hl]; omega,?_⟩
  rw [ev L (by omega),if_pos rfl]
  unfold QaO at hs
  simp only [Bool.and_eq_true] at hs
  exact hs.1.1.1
end Go.Proofs.YtcmaolmofgmkhaaDoor.Te
end
section
namespace Go.Proofs.YtcmaolmofgmkhaaDoor.Te
open Go Go.RowKit
open Rely Auto Own Seat Sha
end Go.Proofs.YtcmaolmofgmkhaaDoor.Te
end
section
namespace Go.Proofs.YtcmaolmofgmkhaaDoor.Te
open Go Go.RowKit
open Rely Auto Own Seat Sha
theorem Qj1 {xs : List Int} {k:Nat} (h:k<xs.length):nth xs k∈xs:=by
  unfold nth
  rw [List.getD_eq_getElem?_getD,List.getElem?_eq_getElem h]
  exact List.getElem_mem h
end Go.Proofs.YtcmaolmofgmkhaaDoor.Te
end
section
namespace Go.Proofs.YtcmaolmofgmkhaaDoor.Te
open Go Go.RowKit
open Rely Auto Own Seat Sha
theorem QgC (pl : Nat→Option (Nat×Nat)):∀ (ps:List (Nat×Nat×Value×Array Value)) (pre:List (Array Value)) (rest:Array Value) (off:Nat),(cat pre).size=off→okPl pl off ps→tot ps=rest.size →
    Instr.fill pl (cat pre++rest) (ps.map fun x=>(x.1,x.2.2.1))=some (cat (pre++ps.map fun x=>x.2.2.2))
  | [],pre,rest,off,_,_,ht=>by
    have:rest=#[]:=Array.eq_empty_of_size_eq_zero ht.symm
    subst this
    simp [Instr.fill]
  | (i,n,v,p)::r,pre,rest,off,hoff,⟨h1,h2,h3,h4⟩,ht=>by
    subst h2
    have hn:n≤rest.size:=by rw [←ht,tot]; omega
    simp only [List.map_cons,Instr.fill,h1,h3]
    rw [if_neg (by simp; omega)]
    have hz:(v.cells.zipIdx.foldl (fun cs (x:Value×Nat)=>cs.setIfInBounds (off+x.2) x.1) (cat pre++rest))=cat (pre++[v.cells])++rest.extract n rest.size:=by
      have e1:v.cells.zipIdx=(v.cells.toList.zipIdx 0).toArray:=by
        apply Array.ext'
        simp
      rw [e1,List.foldl_toArray',Qd6]
      · have e2:rest=rest.extract 0 n++rest.extract n rest.size:=by
          rw [Array.extract_append_extract,Nat.max_eq_right hn]
          simp
        have e3:(cat pre++rest)=cat (pre++([rest.extract 0 n]++[rest.extract n rest.size])):=by
          rw [QaW]
          congr 1
        rw [Nat.add_zero,e3]
        have:=Qhf pre [rest.extract 0 n] [v.cells] [rest.extract n rest.size] off hoff (by show v.cells.size=(rest.extract 0 n).size; simp; omega)
        rw [show (cat [v.cells]).toList=v.cells.toList from rfl] at this
        rw [this,←List.append_assoc,QaW (pre++[v.cells])]
        rfl
      · rfl
    have key:=QgC pl r (pre++[v.cells]) (rest.extract n rest.size) (off+n) (by rw [QaW]; show (cat pre++v.cells).size=_; simp; omega) h4 (by simp; rw [←ht,tot]; omega)
    rw [←hz] at key
    rw [List.append_assoc] at key
    exact key
theorem Qh0 {P : Program} {ρ:Operand→Value} {o:Oper} {w:World} (t e:TypeId) (sz:Nat) (x:Operand) (v:Value) (ho:o.op=.buildSlice t 1 #[(0,x)]) (hx:ρ x=v) (hu:P.underlying t=some (.slice e)) (hs:(P.info? e).map (·.size)=some sz) (hz:((P.info? e).bind (·.zero)).isSome=true) (hv:v.cells.size=sz) (h0:0<sz) (hl:sz≤2^24) :
    (execOp ρ o).run P w=.ok (.value (.slice (some ⟨w.heap.size,0,none⟩) 1 1)) (w.alloc (.cells v.cells e)):=by
  cases hie:P.info? e with
  | none=>simp [hie] at hs
  | some ie =>
    simp only [hie,Option.map_some,Option.some.injEq,Option.bind_some] at hs hz
    obtain ⟨z,hzz⟩:=Option.isSome_iff_exists.1 hz
    subst hx
    have hf:Instr.fill (fun i=>some (i*ie.size,ie.size)) ((Array.range (1*ie.size)).map (z.cells[·%z.cells.size]!)) (Array.map (fun p:Nat×Operand=>(p.1,ρ p.2)) #[(0,x)]).toList=some (ρ x).cells:=by
      have:=QgC (fun i=>some (i*ie.size,ie.size)) [(0,ie.size,ρ x,(ρ x).cells)] [] ((Array.range (1*ie.size)).map (z.cells[·%z.cells.size]!)) 0 rfl ⟨by simp,rfl,by rw [hv,hs],trivial⟩ (by simp [tot])
      simpa [cat] using this
    have hr:=run_buildSlice w t e 1 (Array.map (fun p:Nat×Operand=>(p.1,ρ p.2)) #[(0,x)]) (ρ x).cells ie z hu hie hzz (by rw [hs]; omega) (by rw [hs]; omega) hf
    unfold execOp
    simp only [ho,Sem.run_bind]
    rw [hr]
    rfl
theorem Qe5 {base g:Nat} {w W W':World} (p:Puts W g W') (x:Below base w W) (hg:base≤g):Below base w W' :=
  ⟨p.1.trans x.os,p.2.1.trans x.tape,p.2.2.1.trans x.output,by have:=x.size; have:=p.2.2.2.1; omega,fun k hk=>(p.2.2.2.2 k (by omega)).trans (x.block k hk)⟩
theorem Qks (base : Nat) (W:World):OwT base [] (.slice none 0 0) W :=
  ⟨fun i hi=>absurd hi (Nat.not_lt_zero _),World.ownsRow_nil W base 41 99,fun i hi=>absurd hi (Nat.not_lt_zero _),fun i j hi=>absurd hi (Nat.not_lt_zero _)⟩
theorem QlA (ts : List NdV) (n:NdV):fl (ts++[n])=fl ts++(cat (ndP n)).toList:=by unfold fl; rw [List.flatMap_append]; simp
theorem Qda (ts : List NdV) (n:NdV) {j:Nat} (h:j<ts.length+1):ndi (ts++[n]) j=if j<ts.length then ndi ts j else n:=by
  rw [Qbq]
  split
  · rfl
  · rw [show j-ts.length=0 by omega]; rfl
theorem QkX {P : Program} {ρ:Operand→Value} {o:Oper} {W:World} (b:Nat) (s x:Operand) (t:TypeId) (ho:o.op=.call { callee:=.builtin .append,args:=#[s,x],argTypes:=#[t,t] }) (ht:P.underlying t=some (.slice 41))
    (hi:(P.info? 41).map (fun i=>(i.zero.map (·.cells.size),i.size,i.bytes))=some (some 99,99,b)) (hb8:b≤1000) {base g:Nat} {v:Value} {ts:List NdV} {n:NdV} (hs:ρ s=v) (hx:ρ x=.slice (some ⟨g,0,none⟩) 1 1)
    (h:OwT base ts v W) (hn:NdIn base W n) (ha:∀ j,j<ts.length→∀ g,ob n=some g→ob (ndi ts j)≠some g) (hrow:W.heap[g]? = some (.cells (cat (ndP n)) 41)) (htl:ts.length≤1000000) (hbase:base≤W.heap.size) :
    ∃ v' W',(execOp ρ o).run P W=.ok (.value v') W'∧OwT base (ts++[n]) v' W'∧RowKit.Below base W W':=by
  obtain ⟨i,hq,z,hz,hzs,hi2,hi3⟩:∃ i,P.info? 41=some i∧∃ z,i.zero=some z∧z.cells.size=99∧i.size=99∧i.bytes=b:=by
    cases hq:P.info? 41 with
    | none=>rw [hq] at hi; cases hi
    | some i =>
      rw [hq] at hi
      simp only [Option.map_some,Option.some.injEq,Prod.mk.injEq] at hi
      obtain ⟨z,hz,hzs⟩:=Option.map_eq_some_iff.1 hi.1
      exact ⟨i,rfl,z,hz,hzs,hi.2.1,hi.2.2⟩
  have hsz:=Qbf n hn.1
  obtain ⟨v',W',hr,h2,h3,-,-⟩:=run_append_own_at (P:=P) W base t o.type 41 i z 99 b ht hq hz hi2 hi3 hzs (by decide) v ts.length _ h.row ⟨g,0,none⟩ 1 1 (cat (ndP n)).toList (by rw [Array.length_toList,hsz])
    (fun j u hu=>by
      rw [WideShapes.add_plain,Nat.zero_add]
      unfold World.cell?
      simp only [hrow]
      rw [Array.getElem?_toList] at hu
      rw [←hu]; rfl) (fun u hu=>(Array.all_eq_true'.1 (QhN n)) u (Array.mem_toList_iff.1 hu)) (by simp only [maxLen]; omega) (by
        have:(ts.length+1)*b≤1000001*1000:=Nat.mul_le_mul (by omega) hb8
        omega) hbase
  have ne:∀ m:NdV,NdIn base W m→NdIn base W' m:=fun m hm=>hm.keep fun k hk=>h3.block k (hm.lt hk) fun q=>by
    obtain ⟨cur,e1⟩:=QbP hm.2.2 hk
    obtain ⟨-,cur2,e2⟩:=h.rowBlock q.symm
    rw [e1] at e2
    simp at e2
  refine ⟨v',W',?_,⟨fun k hk=>?_,?_,fun k hk _=>?_,fun k j hk hj hkj _ _ g=>?_⟩,⟨h3.os,h3.tape,h3.output,h3.size,fun k hk=>h3.block k (qL hk hbase) fun q=>by have:=(h.rowBlock q.symm).1; omega⟩⟩
  · unfold execOp
    simp only [ho,resolve,invoke,builtin,Sem.run_bind,Sem.run_pure,Result.andThen_ok,List.map_toArray,List.map_cons,List.map_nil,hs,hx,hr]
  · rw [List.length_append,List.length_singleton] at hk
    rw [Qda ts n hk]
    split
    · next h1=>exact h.ok k h1
    · exact hn.1
  · rw [List.length_append,List.length_singleton,QlA]
    exact h2
  · rw [List.length_append,List.length_singleton] at hk
    rw [Qda ts n hk]
    split
    · next h1=>exact ne _ (h.nd k h1 (by simp))
    · exact ne n hn
  · rw [List.length_append,List.length_singleton] at hk hj
    rw [Qda ts n hk,Qda ts n hj]
    split
    · next h1 =>
      split
      · next h2=>exact h.ap k j h1 h2 hkj (by simp) (by simp) g
      · exact fun q1 q2=>ha k h1 g q2 q1
    · split
      · next h2=>exact ha j h2 g
      · omega
section
variable {ds : List Deferred} {P : Program} {ops : Array Oper} {Q : Exit → Act → World → Prop} {rest : List Oper} {o : Oper} {N : Nat} {L : Env} {W : World}
theorem Qgs (b : Nat) (s x:Operand) (t:TypeId) (ho:o.op=.call { callee:=.builtin .append,args:=#[s,x],argTypes:=#[t,t] }) (ht:P.underlying t=some (.slice 41))
    (hi:(P.info? 41).map (fun i=>(i.zero.map (·.cells.size),i.size,i.bytes))=some (some 99,99,b)) (hb8:b≤1000) (d:Nat) (hd:o.dst=some d) (hg:Qbe ops o N L=some true) {base g:Nat} {v:Value} {ts:List NdV} {n:NdV} (hs:Rely.look (envN N L) s=v) (hx:Rely.look (envN N L) x=.slice (some ⟨g,0,none⟩) 1 1)
    (h:OwT base ts v W) (hn:NdIn base W n) (ha:∀ j,j<ts.length→∀ g,ob n=some g→ob (ndi ts j)≠some g) (hrow:W.heap[g]? = some (.cells (cat (ndP n)) 41)) (htl:ts.length≤1000000) (hbase:base≤W.heap.size)
    (kk:∀ (u:Value) (W':World),OwT base (ts++[n]) u W'→RowKit.Below base W W'→WL P ops Q rest (Qar ds N ((d,u)::L)) W'):WL P ops Q (o::rest) (Qar ds N L) W:=by
  obtain ⟨v',W',h1,h2,h3⟩:=QkX (ρ:=Rely.look (envN N L)) b s x t ho ht hi hb8 hs hx h hn ha hrow htl hbase
  exact Qcq _ _ d hd hg h1 (kk v' W' h2 h3)
end
theorem Qhu {us ts:List NdV} {i:Nat} {n:NdV} (hl:us.length=i) (h:∀ j,j<i→(ndi us j).n=(ndi ts j).n) (hn:n.n=(ndi ts i).n):∀ j,j<i+1→(ndi (us++[n]) j).n=(ndi ts j).n:=fun j hj=>by
  rw [Qda us n (by omega)]
  split
  · exact h j (by omega)
  · obtain rfl:j=i:=by omega
    exact hn
set_option maxRecDepth 100000 in
theorem QhA (ts : List NdV) (a_t:Option Addr) (c_t B1:Nat) (w:World) (ht:TrAt B1 w a_t ts) (htl:ts.length≤100000) (hmt:∀ i,i<ts.length→(ndi ts i).n.ms.length≤1000):Calls Tryd.prog 21 #[.slice a_t ts.length c_t] w (QbH w (fun v W=>∃ us,AsC us ts∧OwT w.heap.size us v W)):=by
 refine enter 26 [(0,.slice a_t ts.length c_t)] Tryd.func21 rfl rfl kj rfl ?_
 refine wp_seq_k fun K1 hK1=>?_
 refine Qab ?_
 refine Qaa (.slice none 0 0) 2 rfl kj kj ?_
 refine Qae ?_
 refine hK1 _ _ ?_
 refine wp_seq_k fun K2 hK2=>?_
 refine Qab ?_
 refine Qaa (.slice none 0 0) 3 rfl kj kj ?_
 refine Qae ?_
 refine hK2 _ _ ?_
 refine wp_seq_k fun K3 hK3=>?_
 refine wp_seq_k fun K4 hK4=>?_
 refine Qab ?_
 refine Qaa (.int .i64 0) 4 rfl kj kj ?_
 refine Qae ?_
 refine hK4 _ _ ?_
 refine wp_block ?_
 refine Qaz (fun (s1:Nat×Value×List NdV)=>[(0,.slice a_t ts.length c_t),(3,s1.2.1),(4,.int .i64 ((s1.1:Nat):Int))]) (fun (s1:Nat×Value×List NdV) W=>(s1.1≤ts.length)∧(s1.2.2.length=s1.1)∧(∀ j,j<s1.1→(ndi s1.2.2 j).n=(ndi ts j).n)∧(OwT w.heap.size s1.2.2 s1.2.1 W)∧(Below w.heap.size w W)∧(Ext w W)) (fun (s1:Nat×Value×List NdV)=>ts.length-s1.1) (0,(.slice none 0 0),[]) ⟨rfl,rfl,rfl,trivial⟩ ⟨(Nat.zero_le _),rfl,(fun j h=>absurd h (Nat.not_lt_zero j)),(Qks _ _),(RowKit.Below.refl _ w),(Rely.Ext.refl w)⟩ fun s1 X1 V1 hI1=>?_
 obtain ⟨i,u,us⟩:=s1
 obtain ⟨hi,hul,huc,hU,kk1,xx1⟩:=hI1
 replace hi:i≤ts.length:=hi
 replace hul:us.length=i:=hul
 replace huc:∀ j,j<i→(ndi us j).n=(ndi ts j).n:=huc
 replace hU:OwT w.heap.size us u V1:=hU
 replace kk1:Below w.heap.size w V1:=kk1
 replace xx1:Ext w V1:=xx1
 have l1:=kk1
 refine wp_seq_k fun K5 hK5=>?_
 refine wp_seq_k fun K6 hK6=>?_
 refine Qab ?_
 refine Qaa (.int .i64 ((i:Nat):Int)) 6 rfl kj kj ?_
 refine Qaa (.slice a_t ts.length c_t) 7 rfl kj kj ?_
 refine Qaa (.int .i64 ((ts.length:Nat):Int)) 8 rfl kj kj ?_
 refine Qaa (.bool (decide (((i:Nat):Int)<((ts.length:Nat):Int)))) 9 rfl kj kj ?_
 refine Qae ?_
 refine hK6 _ _ ?_
 refine Qat (t:=decide (((i:Nat):Int)<((ts.length:Nat):Int))) kj (fun c7=>?_) (fun c7=>?_)
 ·skip
  have hlt9:i<ts.length:=by have:=of_decide_eq_true c7; omega
  refine wp_skip ?_
  refine hK5 _ _ ?_
  refine wp_seq_k fun K8 hK8=>?_
  refine wp_block ?_
  refine wp_seq_k fun K9 hK9=>?_
  refine Qab ?_
  refine Qaa (.slice a_t ts.length c_t) 12 rfl kj kj ?_
  refine Qaa (.int .i64 ((i:Nat):Int)) 13 rfl kj kj ?_
  obtain ⟨gtT,otT,hat,hnts⟩:=TrAt.ext ht xx1
  have hnt:=hnts i (by omega)
  obtain ⟨nt,ent⟩:∃ z,z=ndi ts i:=⟨_,rfl⟩
  rw [←ent] at hnt
  have okt:=hnt.ok
  have rdt:=hnt.rd
  refine Qaa (.pointer (some ⟨gtT,otT+i*99,none⟩)) 14 rfl kj (Qao 23 _ _ .i64 i gtT otT ts.length c_t 41 99 a_t (hat (by omega)) rfl kj kj kj kj (by omega)) ?_
  refine Qaa (.agg (cat [#[.bool nt.n.us],#[.int .i64 nt.n.nm],ints .u8 (nt.n.key),ints .u8 (nt.n.sg),ints .u8 (nt.n.pa),#[.slice nt.a nt.n.ms.length nt.c]])) 15 rfl kj (QaH 41 _ gtT (otT+i*99) nt hnt rfl kj kj kj) ?_
  refine Qap (cat [#[.bool false],#[.int .i64 0],ints .u8 (List.replicate 32 0),ints .u8 (List.replicate 32 0),ints .u8 (List.replicate 32 0),#[.slice none 0 0]]) 41 5 rfl kj kj fun g10 W2 l10 e2 r10_2=>?_
  have x2:Ext w W2:=Ext.tr xx1 e2
  have b10:w.heap.size≤g10:=qT xx1.size l10
  refine Qa5 g10 _ (cat [#[.bool nt.n.us],#[.int .i64 nt.n.nm],ints .u8 (nt.n.key),ints .u8 (nt.n.sg),ints .u8 (nt.n.pa),#[.slice nt.a nt.n.ms.length nt.c]]) 41 r10_2 rfl kj (QaE 41 _ _ g10 41 _ _ r10_2 rfl kj kj (isz (n:=99) kj (by rw [Qac,Qac,Qac,Qac,Qac,Qac]; simp only [qS,cat,((Qaf _ _).trans okt.gl),((Qaf _ _).trans okt.kl),((Qaf _ _).trans okt.pl)]; rfl)) (eqsz (n:=99) (by rw [Qac,Qac,Qac,Qac,Qac,Qac]; simp only [qS,cat,((Qaf _ _).trans (qZ (n:=32)))]; rfl) (by rw [Qac,Qac,Qac,Qac,Qac,Qac]; simp only [qS,cat,((Qaf _ _).trans okt.gl),((Qaf _ _).trans okt.kl),((Qaf _ _).trans okt.pl)]; rfl)) (Qbt _ (by intro a ha; simp only [List.mem_cons,List.not_mem_nil,or_false] at ha; rcases ha with rfl | rfl | rfl | rfl | rfl | rfl; exact (Qa2 _ rfl); exact (Qa2 _ rfl); exact (Qa3 _ _); exact (Qa3 _ _); exact (Qa3 _ _); exact (Qa2 _ rfl)))) fun W3 p3 r10_3=>?_
  have x3:Ext w W3:=Puts.ext p3 x2 b10
  refine Qae ?_
  refine hK9 _ _ ?_
  refine wp_seq_k fun K11 hK11=>?_
  refine Qab ?_
  refine Qbw (ints .i64 ([])) 3 0 16 rfl kj kj fun g12 W4 l12 e4 r12_4=>?_
  have x4:Ext w W4:=Ext.tr x3 e4
  have b12:w.heap.size≤g12:=qT x3.size l12
  refine Qaa (.pointer (some ⟨g10,98,none⟩)) 17 rfl kj kj ?_
  have r10_4:=(Qah r10_3 e4)
  refine Qaa (.slice nt.a nt.n.ms.length nt.c) 18 rfl kj (Qag 36 _ g10 98 41 _ (.slice nt.a nt.n.ms.length nt.c) _ r10_4 rfl kj (Qak [#[.bool nt.n.us],#[.int .i64 nt.n.nm],ints .u8 (nt.n.key),ints .u8 (nt.n.sg),ints .u8 (nt.n.pa)] [#[.slice nt.a nt.n.ms.length nt.c]] [] 98 (by rw [Qac,Qac,Qac,Qac,Qac]; simp only [qS,cat,((Qaf _ _).trans okt.gl),((Qaf _ _).trans okt.kl),((Qaf _ _).trans okt.pl)]; rfl) 0 _ rfl) kj) ?_
  have y1_2:Ext V1 W2:=(Rely.Ext.trans (Rely.Ext.refl V1) e2)
  have y1_3:Ext V1 W3:=(Puts.ext p3 y1_2 l10)
  have y1_4:Ext V1 W4:=(Rely.Ext.trans y1_3 e4)
  have y3_4:Ext W3 W4:=(Rely.Ext.trans (Rely.Ext.refl W3) e4)
  refine Qbz (k:=.i64) (T:=3) (xs:=[]) (ys:=nt.n.ms) (V:=W3) 8 (.tmp 16) (.tmp 18) 36 rfl kj kj (by decide) 19 rfl kj kj kj (Qgz (xs:=[]) rfl l12 r12_4 (by decide)) (RdK.here (RdK.ext rdt y1_4)) (by have h9:=hmt i (by omega); rw [←ent] at h9; simp; omega) y3_4 fun zq W5 f13 y5 l5=>?_
  have x5:Ext w W5:=Ext.low x4 l5 x3.size
  have hq5:OwnN .i64 3 W3.heap.size nt.n.ms zq W5:=f13
  obtain ⟨a5,c5,hz5,-⟩:=id (OwnN.rd hq5)
  subst hz5
  refine Qaa (.pointer (some ⟨g10,98,none⟩)) 20 rfl kj kj ?_
  have r10_5:=(QhX l5 r10_4 (QaB r10_3))
  refine Qa5 g10 _ (cat [#[.bool nt.n.us],#[.int .i64 nt.n.nm],ints .u8 (nt.n.key),ints .u8 (nt.n.sg),ints .u8 (nt.n.pa),#[.slice a5 nt.n.ms.length c5]]) 41 r10_5 rfl kj (Qe4 36 _ _ g10 98 41 [#[.bool nt.n.us],#[.int .i64 nt.n.nm],ints .u8 (nt.n.key),ints .u8 (nt.n.sg),ints .u8 (nt.n.pa)] [] _ (.slice a5 nt.n.ms.length c5) r10_5 rfl kj kj kj (by rw [Qac,Qac,Qac,Qac,Qac]; simp only [qS,cat,((Qaf _ _).trans okt.gl),((Qaf _ _).trans okt.kl),((Qaf _ _).trans okt.pl)]; rfl) rfl rfl) fun W6 p6 r10_6=>?_
  have x6:Ext w W6:=Puts.ext p6 x5 b10
  refine Qae ?_
  refine hK11 _ _ ?_
  refine Qab ?_
  refine Qaa (u) 21 rfl kj kj ?_
  refine Qaa (.agg (cat [#[.bool nt.n.us],#[.int .i64 nt.n.nm],ints .u8 (nt.n.key),ints .u8 (nt.n.sg),ints .u8 (nt.n.pa),#[.slice a5 nt.n.ms.length c5]])) 22 rfl kj (Qa9 41 _ g10 41 _ _ r10_6 rfl kj kj (isz (n:=99) kj (by rw [Qac,Qac,Qac,Qac,Qac,Qac]; simp only [qS,cat,((Qaf _ _).trans okt.gl),((Qaf _ _).trans okt.kl),((Qaf _ _).trans okt.pl)]; rfl))) ?_
  refine Qfx (cat (ndP (⟨nt.n,a5,c5⟩:NdV))) 41 1 1 23 rfl kj (Qh0 23 41 99 _ (.agg (cat (ndP (⟨nt.n,a5,c5⟩:NdV)))) rfl kj kj kj kj (Qbf (⟨nt.n,a5,c5⟩:NdV) okt) (by decide) (by decide)) fun gz W7 lz e7 rz=>?_
  have x7:Ext w W7:=Ext.tr x6 e7
  have f14_6:=(hq5.puts p6 (QhO hq5 (QaB r10_3)))
  have f15_7:=(f14_6.ext e7)
  have y1_5:Ext V1 W5:=(Ext.low y1_4 l5 y1_3.size)
  have y1_6:Ext V1 W6:=(Puts.ext p6 y1_5 l10)
  have y1_7:Ext V1 W7:=(Rely.Ext.trans y1_6 e7)
  have hn5:NdIn w.heap.size W7 (⟨nt.n,a5,c5⟩:NdV):=⟨okt,ent▸hmt i (by omega),OwnN.base (x3.size) f15_7⟩
  refine Qgs 136 (.tmp 21) (.tmp 23) 23 rfl kj kj (by decide) 24 rfl kj kj kj (OwH.ext hU y1_7) hn5 (fun j hj g h1 h2=>by have h3:=OwnN.ge hq5 h1; have h4:=(hU.nd j (by omega) (by simp)).lt h2; have h5:=(y1_3).size; omega) rz (by omega) (x7).size fun u2 W8 hU2 l8=>?_
  have x8:Ext w W8:=Ext.low x7 l8 (Rely.Ext.refl w).size
  refine Qaa (u2) 3 rfl kj kj ?_
  refine Qae ?_
  refine hK8 _ _ ?_
  refine Qab ?_
  refine Qaa (.int .i64 ((i:Nat):Int)) 10 rfl kj kj ?_
  refine Qaa (.int .i64 ((i+1:Nat):Int)) 11 rfl kj (Qai (u:=.int .i64 (IntKind.i64.wrap (((i:Nat):Int)+1))) kj (congrArg (Value.int .i64) (i64n _ _ (by omega) (by omega)))) ?_
  refine Qaa (.int .i64 ((i+1:Nat):Int)) 4 rfl kj kj ?_
  refine Qae ?_
  have y0_1:Ext w V1:=(Ext.low (Rely.Ext.refl w) l1 (Rely.Ext.refl w).size)
  have y0_2:Ext w W2:=(Rely.Ext.trans y0_1 e2)
  have y0_3:Ext w W3:=(Puts.ext p3 y0_2 (qT y0_1.size l10))
  have y0_4:Ext w W4:=(Rely.Ext.trans y0_3 e4)
  have y0_5:Ext w W5:=(Ext.low y0_4 l5 y0_3.size)
  have y0_6:Ext w W6:=(Puts.ext p6 y0_5 (qT y0_1.size l10))
  repeat (first | with_reducible refine goX1 ?_ | with_reducible refine goX2 ?_ | with_reducible refine goX3 ?_)
  exact Qas ((i+1),u2,(us++[(⟨nt.n,a5,c5⟩:NdV)])) ⟨rfl,rfl,rfl,trivial⟩ ⟨(by omega),(by rw [List.length_append,hul]; rfl),(Qhu hul huc (show nt.n=(ndi ts i).n by rw [ent])),hU2,(RowKit.Below.trans (RowKit.Below.trans (Qe5 p6 (RowKit.Below.trans (RowKit.Below.trans (Qe5 p3 (RowKit.Below.trans l1 (RowKit.Below.mono e2 y0_1.size)) b10) (RowKit.Below.mono e4 y0_3.size)) (RowKit.Below.mono l5 y0_3.size)) b10) (RowKit.Below.mono e7 y0_6.size)) l8),x8⟩ (by show ts.length-(i+1)<ts.length-i; omega)
 ·skip
  have heq9:i=ts.length:=by have:=of_decide_eq_false c7; omega
  refine wp_exit ?_
  refine hK3 _ _ ?_
  refine wp_seq_k fun K16 hK16=>?_
  refine Qab ?_
  refine Qaa (u) 25 rfl kj kj ?_
  refine Qaa (u) 2 rfl kj kj ?_
  refine Qae ?_
  refine hK16 _ _ ?_
  refine wp_ret ?_
  repeat (first | with_reducible refine goR1 ?_ | with_reducible refine goR2 ?_)
  exact (show bodyPost _ _ _ .ret _ _ from ret1 (u) rfl (Qam kj) ⟨_,rfl,xx1,us,⟨by omega,fun j hj=>huc j (by omega)⟩,hU⟩)
end Go.Proofs.YtcmaolmofgmkhaaDoor.Te
end
section
namespace Go.Proofs.YtcmaolmofgmkhaaDoor.Seat
open Go Go.RowKit
open Rely Auto Own
theorem Qgv (x n:Int) (W:World):Calls Tryd.prog 73 #[.int .i64 x,.int .i64 n] W (Ret W (.int .i64 (par x n))):=quiet (rparent x n W)
def upL (x n:Int) (k:Nat):List Int:=(List.range k).map (upn x n)
theorem Qi3 (x n:Int) (k:Nat):upL x n (k+1)=upL x n k++[upn x n k]:=by simp [upL,List.range_succ]
theorem QcM (x n:Int) (k:Nat):(upL x n k).length=k:=by simp [upL]
theorem QfL {x n:Int} {K k:Nat} (h:k<K):nth (upL x n K) k=upn x n k:=by simp [nth,upL,h]
theorem Qhm (x n:Int):∃ K,K≤6∧upn x n K<0∧∀ i,i<K→0≤upn x n i:=by
  have go:∀ m,m≤6→(∀ i,i<6-m→0≤upn x n i)→∃ K,K≤6∧upn x n K<0∧∀ i,i<K→0≤upn x n i:=by
    intro m
    induction m with
    | zero =>
      intro _ h
      refine ⟨6,qR _,?_,fun i hi=>h i (by omega)⟩
      rcases Int.lt_or_le (upn x n 6) 0 with h6 | h6
      · exact h6
      · have:=Qe0 h6; omega
    | succ m ih =>
      intro hm h
      rcases Int.lt_or_le (upn x n (6-(m+1))) 0 with h6 | h6
      · exact ⟨6-(m+1),by omega,h6,h⟩
      · exact ih (by omega) (fun i hi=>by
          rcases Nat.lt_or_ge i (6-(m+1)) with h1 | h1
          · exact h i h1
          · rw [show i=6-(m+1) by omega]; exact h6)
  exact go 6 (by omega) (fun i hi=>by omega)
theorem Qh5 (x n:Int) (K:Nat) (hK:K≤6) (hneg:upn x n K<0) (hall:∀ i,i<K→0≤upn x n i) (w:World):Calls Tryd.prog 54 #[.int .i64 x,.int .i64 n] w (QbH w (OwnN .i64 3 w.heap.size (upL x n K))):=by
 refine enter 20 [(0,.int .i64 x),(1,.int .i64 n)] Tryd.func54 rfl rfl (by kernel_rfl) rfl ?_
 refine wp_seq_k fun K1 hK1=>?_
 refine Qab ?_
 refine Qaa (.slice none 0 0) 4 rfl (by kernel_rfl) (by kernel_rfl) ?_
 refine Qae ?_
 refine hK1 _ _ ?_
 refine wp_seq_k fun K2 hK2=>?_
 refine Qab ?_
 refine Qaa (.slice none 0 0) 5 rfl (by kernel_rfl) (by kernel_rfl) ?_
 refine Qae ?_
 refine hK2 _ _ ?_
 refine wp_seq_k fun K3 hK3=>?_
 refine wp_seq_k fun K4 hK4=>?_
 refine Qab ?_
 refine Qaa (.int .i64 x) 7 rfl (by kernel_rfl) (by kernel_rfl) ?_
 refine Qaa (.int .i64 n) 8 rfl (by kernel_rfl) (by kernel_rfl) ?_
 refine Qal (.int .i64 (upn x n 0)) 73 #[.int .i64 x,.int .i64 n] 9 rfl (by kernel_rfl) (by kernel_rfl) ((Qgv x n) _) fun W1 e1=>?_
 have x1:Ext w W1:=Ext.tr (Rely.Ext.refl w) e1
 refine Qaa (.int .i64 (upn x n 0)) 6 rfl (by kernel_rfl) (by kernel_rfl) ?_
 refine Qae ?_
 refine hK4 _ _ ?_
 refine wp_block ?_
 refine Qaz (fun (s1:Nat×Value)=>[(1,.int .i64 n),(5,s1.2),(6,.int .i64 (upn x n s1.1))]) (fun (s1:Nat×Value) W=>(s1.1≤K)∧(OwnN .i64 3 W1.heap.size (upL x n s1.1) s1.2 W)∧(Ext W1 W)∧(Ext w W)) (fun (s1:Nat×Value)=>K-s1.1) (0,(.slice none 0 0)) ⟨rfl,rfl,rfl,trivial⟩ ⟨(Nat.zero_le _),(QcG _ _ _ _),(Rely.Ext.refl W1),x1⟩ fun s1 X1 V1 hI1=>?_
 obtain ⟨k,u⟩:=s1
 obtain ⟨hkk,hu,kk1,xx1⟩:=hI1
 replace hkk:k≤K:=hkk
 replace hu:OwnN .i64 3 W1.heap.size (upL x n k) u V1:=hu
 replace kk1:Ext W1 V1:=kk1
 replace xx1:Ext w V1:=xx1
 have e2:=kk1
 refine wp_seq_k fun K5 hK5=>?_
 refine wp_seq_k fun K6 hK6=>?_
 refine Qab ?_
 refine Qaa (.int .i64 (upn x n k)) 10 rfl (by kernel_rfl) (by kernel_rfl) ?_
 refine Qaa (.bool (decide ((upn x n k)≥0))) 11 rfl (by kernel_rfl) (by kernel_rfl) ?_
 refine Qae ?_
 refine hK6 _ _ ?_
 refine Qat (t:=decide ((upn x n k)≥0)) (by kernel_rfl) (fun c7=>?_) (fun c7=>?_)
 ·skip
  have h0:0≤upn x n k:=by have:=of_decide_eq_true c7; omega
  have hkK:k<K:=by
   rcases Nat.lt_or_ge k K with h | h
   ·exact h
   ·rw [show k=K by omega] at h0; omega
  refine wp_skip ?_
  refine hK5 _ _ ?_
  refine wp_seq_k fun K8 hK8=>?_
  refine wp_block ?_
  refine Qab ?_
  refine Qaa (u) 15 rfl (by kernel_rfl) (by kernel_rfl) ?_
  refine Qaa (.int .i64 (upn x n k)) 16 rfl (by kernel_rfl) (by kernel_rfl) ?_
  refine Qbw (ints .i64 ([(upn x n k)])) 3 1 17 rfl (by kernel_rfl) (by kernel_rfl) fun g9 W3 l9 e3 r9_3=>?_
  have x3:Ext w W3:=Ext.tr xx1 e3
  have b9:w.heap.size≤g9:=qT xx1.size l9
  have f10_3:=(hu.ext e3)
  have y1_3:Ext W1 W3:=(Rely.Ext.trans e2 e3)
  refine Qbz (k:=.i64) (T:=3) (xs:=upL x n k) (ys:=[upn x n k]) (V:=W1) 8 (.tmp 15) (.tmp 17) 36 rfl (by kernel_rfl) (by kernel_rfl) (by decide) 18 rfl (by kernel_rfl) (by kernel_rfl) (by kernel_rfl) f10_3 (QcX (xs:=[(upn x n k)]) (n:=1) rfl r9_3 (QaB r9_3) (show 1≤maxLen from by decide)) (by rw [QcM]; show k+1≤1000000000; omega) y1_3 fun u2 W4 f11 y4 l4=>?_
  have x4:Ext w W4:=Ext.low x3 l4 x1.size
  refine Qaa (u2) 5 rfl (by kernel_rfl) (by kernel_rfl) ?_
  refine Qae ?_
  refine hK8 _ _ ?_
  refine Qab ?_
  refine Qaa (.int .i64 (upn x n k)) 12 rfl (by kernel_rfl) (by kernel_rfl) ?_
  refine Qaa (.int .i64 n) 13 rfl (by kernel_rfl) (by kernel_rfl) ?_
  refine Qal (.int .i64 (upn x n (k+1))) 73 #[.int .i64 (upn x n k),.int .i64 n] 14 rfl (by kernel_rfl) (by kernel_rfl) ((Qgv (upn x n k) n) _) fun W5 e5=>?_
  have x5:Ext w W5:=Ext.tr x4 e5
  refine Qaa (.int .i64 (upn x n (k+1))) 6 rfl (by kernel_rfl) (by kernel_rfl) ?_
  refine Qae ?_
  have f12_5:=(f11.ext e5)
  have y1_5:Ext W1 W5:=(Rely.Ext.trans y4 e5)
  repeat (first | with_reducible refine goX1 ?_ | with_reducible refine goX2 ?_ | with_reducible refine goX3 ?_)
  exact Qas ((k+1),u2) ⟨rfl,rfl,rfl,trivial⟩ ⟨(by omega),(by rw [Qi3]; exact f12_5),y1_5,x5⟩ (by show K-(k+1)<K-k; omega)
 ·skip
  have h0:upn x n k<0:=by have:=of_decide_eq_false c7; omega
  have hkK:k=K:=by
   rcases Nat.lt_or_ge k K with h | h
   ·have:=hall k h; omega
   ·omega
  refine wp_exit ?_
  refine hK3 _ _ ?_
  refine wp_seq_k fun K13 hK13=>?_
  refine Qab ?_
  refine Qaa (u) 19 rfl (by kernel_rfl) (by kernel_rfl) ?_
  refine Qaa (u) 4 rfl (by kernel_rfl) (by kernel_rfl) ?_
  refine Qae ?_
  refine hK13 _ _ ?_
  refine wp_ret ?_
  repeat (first | with_reducible refine goR1 ?_ | with_reducible refine goR2 ?_)
  exact (show bodyPost _ _ _ .ret _ _ from ret1 (u) rfl (Qam (by kernel_rfl)) ⟨u,rfl,xx1,by rw [←hkK]; exact OwnN.base x1.size hu⟩)
end Go.Proofs.YtcmaolmofgmkhaaDoor.Seat
end
section
namespace Go.Proofs.YtcmaolmofgmkhaaDoor.Te
open Go Go.RowKit
open Rely Auto Own Seat Sha
theorem rdE {k : IntKind} {B:Nat} {v:Value} {w W:World} (h:RdK k B [] v w):RdK k B [] v W:=by
  obtain ⟨a,cap,e,h2,h3,h4,-⟩:=h
  exact ⟨a,cap,e,h2,h3,h4,.inl rfl⟩
theorem OwH.setE {base g c i M:Nat} {ts:List NdV} {n:NdV} {W W':World} {cur:Array Value} (hM:ts.length=M) (t:OwT base ts (.slice (some ⟨g,0,none⟩) M c) W) (hi:i<M) (r:W.heap[g]? = some (.cells cur 41)) (p:Puts W g W') (r':W'.heap[g]? = some (.cells (splice cur (i*99) (cat (ndP n)).toList) 41)) (ok:NdOk n.n) :
    OwH base (ts.set i n) (.slice (some ⟨g,0,none⟩) M c) W' (some i):=by
  subst hM
  obtain ⟨g',c2,cur2,e,q2,q3,q4,q5,q6,q7⟩:=t.opens (by omega)
  simp only [Value.slice.injEq,Option.some.injEq,Addr.mk.injEq] at e
  obtain ⟨⟨rfl,-⟩,-,rfl⟩:=e
  rw [r] at q3
  simp only [Option.some.injEq,Obj.cells.injEq,and_true] at q3
  subst q3
  have kp:∀ m:NdV,NdIn base W m→NdIn base W' m:=fun m hm=>hm.keep fun k hk=>p.2.2.2.2 k fun e=>by
    obtain ⟨cur2,r2⟩:=QbP hm.2.2 hk
    rw [e,r] at r2
    simp at r2
  have:=OwH.made (h:=some i) (ts:=ts.set i n) (c:=c) q2 r' ((QaK _ _ _).trans q4) (by rw [List.length_set]; exact q5) q6 (QfP ok hi (by omega) q7) (fun k hk=>by
    rw [List.length_set] at hk
    rw [QaC n hi]
    split
    · exact ok
    · exact t.ok k hk) (fun k hk hki=>by
    rw [List.length_set] at hk
    rw [QaC n hi,if_neg (fun e=>hki (by rw [e]))]
    exact kp _ (t.nd k hk (by simp))) (QeF hi t.ap (fun _ _ _=>by simp) fun q=>absurd rfl q)
  rwa [List.length_set] at this
theorem OwH.setZ {base g c i j M:Nat} {ts:List NdV} {W W':World} {cur:Array Value} (hM:ts.length=M) (t:OwH base ts (.slice (some ⟨g,0,none⟩) M c) W (some i)) (hj:j<M) (hji:j≠i) (r:W.heap[g]? = some (.cells cur 41)) (p:Puts W g W') (r':W'.heap[g]? = some (.cells (splice cur (j*99) (cat (ndP zn)).toList) 41)) :
    OwH base (ts.set j zn) (.slice (some ⟨g,0,none⟩) M c) W' (some i):=by
  subst hM
  obtain ⟨g',c2,cur2,e,q2,q3,q4,q5,q6,q7⟩:=t.opens (by omega)
  simp only [Value.slice.injEq,Option.some.injEq,Addr.mk.injEq] at e
  obtain ⟨⟨rfl,-⟩,-,rfl⟩:=e
  rw [r] at q3
  simp only [Option.some.injEq,Obj.cells.injEq,and_true] at q3
  subst q3
  have kp:∀ m:NdV,NdIn base W m→NdIn base W' m:=fun m hm=>hm.keep fun k hk=>p.2.2.2.2 k fun e=>by
    obtain ⟨cur2,r2⟩:=QbP hm.2.2 hk
    rw [e,r] at r2
    simp at r2
  have:=OwH.made (h:=some i) (ts:=ts.set j zn) (c:=c) q2 r' ((QaK _ _ _).trans q4) (by rw [List.length_set]; exact q5) q6 (QfP Qdj hj (by omega) q7) (fun k hk=>by
    rw [List.length_set] at hk
    rw [QaC zn hj]
    split
    · exact Qdj
    · exact t.ok k hk) (fun k hk hki=>by
    rw [List.length_set] at hk
    rw [QaC zn hj]
    split
    · exact QgM _ _
    · exact kp _ (t.nd k hk hki)) (QeF hj t.ap (fun _ _ q=>q) fun _ k _ _ _ x h1=>by rw [QiS] at h1; cases h1)
  rwa [List.length_set] at this
section
variable {ds : List Deferred} {P : Program} {ops : Array Oper} {Q : Exit → Act → World → Prop} {rest : List Oper} {o : Oper} {N : Nat} {L : Env} {W : World}
theorem QeO (ty : TypeId) (x y:Operand) (g i c:Nat) {M:Nat} {base:Nat} {ts:List NdV} {n:NdV} (hM:ts.length=M) (t:OwT base ts (.slice (some ⟨g,0,none⟩) M c) W) (hil:i<M) (ok:NdOk n.n)
    (ho:o.op=.store ty x y) (hx:Rely.look (envN N L) x=.pointer (some ⟨g,0+i*99,none⟩)) (hy:Rely.look (envN N L) y=.agg (cat (ndP n))) (hi:(P.info? ty).map (·.size)=some 99) (hd:o.dst=none) (hw:Qbe ops o N L=some true)
    (kk:∀ W',Puts W g W'→OwH base (ts.set i n) (.slice (some ⟨g,0,none⟩) M c) W' (some i)→WL P ops Q rest (Qar ds N L) W'):WL P ops Q (o::rest) (Qar ds N L) W:=by
  obtain ⟨g',c',cur,e,q2,q3,q4,q5,q6,q7⟩:=t.opens (by omega)
  simp only [Value.slice.injEq,Option.some.injEq,Addr.mk.injEq] at e
  obtain ⟨⟨rfl,-⟩,-,rfl⟩:=e
  exact Qa5 g cur _ _ q3 hd hw (QdF ty x y g i q3 (by omega) ok ho hx hy hi) fun W' p r'=>kk W' p (t.setE hM hil q3 p r' ok)
theorem QiC (ty : TypeId) (x y:Operand) (g i j c:Nat) {M:Nat} {base:Nat} {ts:List NdV} (hM:ts.length=M) (t:OwH base ts (.slice (some ⟨g,0,none⟩) M c) W (some i)) (hj:j<M) (hji:j≠i)
    (ho:o.op=.store ty x y) (hx:Rely.look (envN N L) x=.pointer (some ⟨g,0+j*99,none⟩)) (hy:Rely.look (envN N L) y=.agg (cat (ndP zn))) (hi:(P.info? ty).map (·.size)=some 99) (hd:o.dst=none) (hw:Qbe ops o N L=some true)
    (kk:∀ W',Puts W g W'→OwH base (ts.set j zn) (.slice (some ⟨g,0,none⟩) M c) W' (some i)→WL P ops Q rest (Qar ds N L) W'):WL P ops Q (o::rest) (Qar ds N L) W:=by
  obtain ⟨g',c',cur,e,q2,q3,q4,q5,q6,q7⟩:=t.opens (by omega)
  simp only [Value.slice.injEq,Option.some.injEq,Addr.mk.injEq] at e
  obtain ⟨⟨rfl,-⟩,-,rfl⟩:=e
  exact Qa5 g cur _ _ q3 hd hw (QdF ty x y g j q3 (by omega) Qdj ho hx hy hi) fun W' p r'=>kk W' p (t.setZ hM hj hji q3 p r')
end
theorem OwH.frE {base i B:Nat} {ts:List NdV} {a:Option Addr} {c:Nat} {W:World} (t:OwH base ts (.slice a ts.length c) W (some i)) (hms:(ndi ts i).n.ms=[]) (hr:RdK .i64 B [] (.slice (ndi ts i).a 0 (ndi ts i).c) W):FrT base ts (.slice a ts.length c) W:=by
  have rd:∀ k,k<ts.length→RdK .i64 W.heap.size (ndi ts k).n.ms (.slice (ndi ts k).a (ndi ts k).n.ms.length (ndi ts k).c) W:=fun k hk=>by
    by_cases e:k=i
    · subst e; rw [hms]; exact RdK.here hr
    · exact RdK.here (OwnN.rd (t.nd k hk (by simpa using e)).2.2)
  refine ⟨a,c,rfl,?_,⟨fun g o m h0 e=>?_,fun k hk hne g o m e=>?_⟩,fun k hk=>?_⟩
  · by_cases h0:0<ts.length
    · obtain ⟨g,cap,cur,e,q2,q3,q4,q5,q6,q7⟩:=t.opens h0
      simp only [Value.slice.injEq] at e
      obtain ⟨rfl,-,rfl⟩:=e
      refine ⟨g,0,fun _=>rfl,fun k hk=>⟨QaB q3,QaB q3,fun j u hu=>?_,rd k hk,t.ok k hk⟩⟩
      have hj:j<99:=by have:=(Array.getElem?_eq_some_iff.1 hu).1; rw [Qbf _ (t.ok k hk)] at this; exact this
      rw [Nat.zero_add,QbU q3,q7 k hk j hj,hu]
    · exact ⟨0,0,fun h1=>absurd h1 h0,fun k hk=>absurd hk (by omega)⟩
  · obtain ⟨g',cap,cur,e1,q2,q3,-⟩:=t.opens h0
    simp only [Value.slice.injEq] at e1
    rw [e] at e1
    have:=e1.1
    simp only [Option.some.injEq,Addr.mk.injEq] at this
    rw [this.1]; exact q2
  · have e2:k≠i:=fun q=>hne (q▸hms)
    obtain ⟨b,cc,cu,e1,e2,-⟩:=Qf2 (t.nd k hk (by simpa using e2)).2.2 (by rcases hz:(ndi ts k).n.ms with _ | ⟨x,r⟩; exact absurd hz hne; simp)
    unfold slv at e1
    rw [e] at e1
    simp only [Value.slice.injEq,Option.some.injEq,Addr.mk.injEq] at e1
    rw [e1.1.1]; exact e2
  · by_cases e:k=i
    · subst e; rw [hms]; exact Nat.zero_le _
    · exact (t.nd k hk (by simpa using e)).2.1
theorem QdY {y n:Int} {K:Nat} (hK:K≤6) (hneg:upn y n K<0) (hall:∀ i,i<K→0≤upn y n i):pthL y n=List.range K:=by
  have hm:∀ d,upn y n (K+d)<0:=fun d=>by
    induction d with
    | zero=>exact hneg
    | succ d ih =>
      show par (upn y n (K+d)) n<0
      rw [Qc4 (by unfold Qau; rw [decide_eq_false (by omega)]; simp)]; decide
  unfold pthL
  rw [show 6=K+(6-K) by omega,List.range_add,List.filter_append]
  rw [List.filter_eq_self.2 fun k hk=>decide_eq_true (hall k (List.mem_range.1 hk)),List.filter_eq_nil_iff.2 fun k hk=>?_,List.append_nil]
  obtain ⟨d,-,rfl⟩:=List.mem_map.1 hk
  have:=hm d
  simp; omega
set_option maxRecDepth 100000 in
theorem Qkq (ts : List NdV) (a_t:Option Addr) (c_t B1:Nat) (w:World) (ht:TrAt B1 w a_t ts) (htl:ts.length≤100000) (hmt:∀ i,i<ts.length→(ndi ts i).n.ms.length≤1000) (L:Nat) (hL:leaves ((ts.length:Nat):Int)=((L:Nat):Int)) (hL3:L≤32) (hlen:ts.length+1=2*L) (hTr:Qax ((L:Nat):Int)=true) (m:Nat) (hm:m<L) (nd:NdV) (hok:NdOk nd.n) (hms:nd.n.ms=[]) (B2:Nat) (hr0:RdK .i64 B2 [] (.slice nd.a 0 nd.c) w):Calls Tryd.prog 58 #[.slice a_t ts.length c_t,.int .i64 ((m:Nat):Int),.agg (cat [#[.bool nd.n.us],#[.int .i64 nd.n.nm],ints .u8 (nd.n.key),ints .u8 (nd.n.sg),ints .u8 (nd.n.pa),#[.slice nd.a nd.n.ms.length nd.c]])] w (QbH w (fun v W=>∃ us,AsC us ts∧FrT w.heap.size (blkT (us.set (2*m) nd) (2*((m:Nat):Int)) ((L:Nat):Int)) v W∧(blkT (us.set (2*m) nd) (2*((m:Nat):Int)) ((L:Nat):Int)).length=ts.length∧∃ a c,v=.slice a ts.length c∧ts.length≤c)):=by
 obtain ⟨K,hK,hneg,hall⟩:=Qhm (2*((m:Nat):Int)) ((L:Nat):Int)
 refine enter 37 [(0,.slice a_t ts.length c_t),(1,.int .i64 ((m:Nat):Int)),(2,.agg (cat [#[.bool nd.n.us],#[.int .i64 nd.n.nm],ints .u8 (nd.n.key),ints .u8 (nd.n.sg),ints .u8 (nd.n.pa),#[.slice nd.a nd.n.ms.length nd.c]]))] Tryd.func58 rfl rfl kj rfl ?_
 refine wp_seq_k fun K1 hK1=>?_
 refine Qab ?_
 refine Qap (cat [#[.bool nd.n.us],#[.int .i64 nd.n.nm],ints .u8 (nd.n.key),ints .u8 (nd.n.sg),ints .u8 (nd.n.pa),#[.slice nd.a nd.n.ms.length nd.c]]) 41 5 rfl kj kj fun g2 W1 l2 e1 r2_1=>?_
 have x1:Ext w W1:=Ext.tr (Rely.Ext.refl w) e1
 have b2:w.heap.size≤g2:=qT (Rely.Ext.refl w).size l2
 refine Qaa (.slice none 0 0) 6 rfl kj kj ?_
 refine Qae ?_
 refine hK1 _ _ ?_
 refine wp_seq_k fun K3 hK3=>?_
 refine Qab ?_
 refine Qaa (.slice a_t ts.length c_t) 10 rfl kj kj ?_
 refine Qa7 (fun v W'=>(fun v W9=>∃ us,AsC us ts∧OwT W1.heap.size us v W9) v W'∧Ext W1 W') 21 #[.slice a_t ts.length c_t] 11 rfl kj kj ((QhA ts a_t _ _ _ (TrAt.ext ht x1) htl hmt).mono (by rintro e w' ⟨v,rfl,e1,hv⟩; exact ⟨v,rfl,hv,e1⟩)) fun vv4 W2 hh4=>?_
 obtain ⟨hv4,e2⟩:=hh4
 have x2:Ext w W2:=Ext.tr x1 e2
 obtain ⟨us,has,hU⟩:=hv4
 obtain ⟨gO,cO,cuO,hvO,lgO,rO2,-,hcO,-⟩:=hU.opens (by have:=has.1; omega)
 subst hvO
 have hM:us.length=ts.length:=has.1
 rw [hM] at hU hcO ⊢
 have bgO:w.heap.size≤gO:=qT x1.size lgO
 refine Qaa (.slice (some ⟨gO,0,none⟩) ts.length cO) 7 rfl kj kj ?_
 refine Qae ?_
 refine hK3 _ _ ?_
 refine wp_seq_k fun K6 hK6=>?_
 refine Qab ?_
 refine Qaa (.slice (some ⟨gO,0,none⟩) ts.length cO) 12 rfl kj kj ?_
 refine Qaa (.int .i64 ((m:Nat):Int)) 13 rfl kj kj ?_
 refine Qaa (.int .i64 (((2*m:Nat):Int))) 14 rfl kj (Qai (u:=.int .i64 (IntKind.i64.wrap (2*((m:Nat):Int)))) kj (congrArg (Value.int .i64) ((IntWalk.i64_in _ (by omega)).trans (by omega)))) ?_
 have r2_2:=(Qah r2_1 e2)
 refine Qaa (.agg (cat [#[.bool nd.n.us],#[.int .i64 nd.n.nm],ints .u8 (nd.n.key),ints .u8 (nd.n.sg),ints .u8 (nd.n.pa),#[.slice nd.a nd.n.ms.length nd.c]])) 15 rfl kj (Qa9 41 _ g2 41 _ _ r2_2 rfl kj kj (isz (n:=99) kj (by rw [Qac,Qac,Qac,Qac,Qac,Qac]; simp only [qS,cat,((Qaf _ _).trans hok.gl),((Qaf _ _).trans hok.kl),((Qaf _ _).trans hok.pl)]; rfl))) ?_
 refine Qaa (.pointer (some ⟨gO,0+(2*m)*99,none⟩)) 16 rfl kj (Qa6 23 _ _ .i64 (2*m) gO 0 ts.length cO 41 99 rfl kj kj kj kj (by omega)) ?_
 refine QeO 41 _ _ gO (2*m) cO (n:=nd) hM hU (by omega) hok rfl kj kj kj rfl kj fun W3 p3 hV0=>?_
 have x3:Ext w W3:=Puts.ext p3 x2 bgO
 obtain ⟨-,cuV0,rV3⟩:=hV0.rowBlock (g:=gO) rfl
 refine Qae ?_
 refine hK6 _ _ ?_
 refine wp_seq_k fun K7 hK7=>?_
 refine Qab ?_
 refine Qaa (.int .i64 ((m:Nat):Int)) 17 rfl kj kj ?_
 refine Qaa (.int .i64 (2*((m:Nat):Int))) 18 rfl kj (Qai (u:=.int .i64 (IntKind.i64.wrap (2*((m:Nat):Int)))) kj (congrArg (Value.int .i64) (IntWalk.i64_in _ (by omega)))) ?_
 refine Qaa (.slice a_t ts.length c_t) 19 rfl kj kj ?_
 refine Qaa (.int .i64 ((ts.length:Nat):Int)) 20 rfl kj kj ?_
 refine Qal (.int .i64 ((L:Nat):Int)) 32 #[.int .i64 ((ts.length:Nat):Int)] 21 rfl kj kj (Qcr ((ts.length:Nat):Int) _ (QbE htl hL) _) fun W4 e4=>?_
 have x4:Ext w W4:=Ext.tr x3 e4
 refine Qa7 (fun v W'=>(OwnN .i64 3 W4.heap.size (upL (2*((m:Nat):Int)) ((L:Nat):Int) K)) v W'∧Ext W4 W') 54 #[.int .i64 (2*((m:Nat):Int)),.int .i64 ((L:Nat):Int)] 22 rfl kj kj ((Qh5 (2*((m:Nat):Int)) ((L:Nat):Int) K hK hneg hall _).mono (by rintro e w' ⟨v,rfl,e1,hv⟩; exact ⟨v,rfl,hv,e1⟩)) fun vv8 W5 hh8=>?_
 obtain ⟨hv8,e5⟩:=hh8
 have x5:Ext w W5:=Ext.tr x4 e5
 have r5_4:=(Qah rV3 e4)
 have nbp:Value.ownBlock vv8≠some gO:=OwnN.nb hv8 (QaB r5_4)
 have hrp:=OwnN.rd hv8
 obtain ⟨ap,cp,hvp,-⟩:=id hrp
 subst hvp
 refine Qaa (.slice ap ((upL (2*((m:Nat):Int)) ((L:Nat):Int) K).length) cp) 8 rfl kj kj ?_
 refine Qae ?_
 refine hK7 _ _ ?_
 refine wp_seq_k fun K9 hK9=>?_
 refine wp_seq_k fun K10 hK10=>?_
 refine Qab ?_
 refine Qaa (.int .i64 0) 9 rfl kj kj ?_
 refine Qae ?_
 refine hK10 _ _ ?_
 refine wp_block ?_
 have y3_4:Ext W3 W4:=(Rely.Ext.trans (Rely.Ext.refl W3) e4)
 have y3_5:Ext W3 W5:=(Rely.Ext.trans y3_4 e5)
 refine Qaz (fun (s1:Nat×List NdV)=>[(7,.slice (some ⟨gO,0,none⟩) ts.length cO),(8,.slice ap ((upL (2*((m:Nat):Int)) ((L:Nat):Int) K).length) cp),(9,.int .i64 ((s1.1:Nat):Int))]) (fun (s1:Nat×List NdV) W=>(s1.1≤(upL (2*((m:Nat):Int)) ((L:Nat):Int) K).length)∧(s1.2.length=ts.length)∧(s1.2=blkL (us.set (2*m) nd) (2*((m:Nat):Int)) ((L:Nat):Int) (List.range s1.1))∧(OwH W1.heap.size s1.2 (.slice (some ⟨gO,0,none⟩) ts.length cO) W (some (2*m)))∧(QaQ [gO] W5 W)∧(Ext w W)) (fun (s1:Nat×List NdV)=>(upL (2*((m:Nat):Int)) ((L:Nat):Int) K).length-s1.1) (0,(us.set (2*m) nd)) ⟨rfl,rfl,rfl,trivial⟩ ⟨(Nat.zero_le _),((List.length_set ..).trans hM),rfl,(OwH.ext hV0 y3_5),(QaQ.refl [gO] W5),x5⟩ fun s1 X1 V1 hI1=>?_
 obtain ⟨k,vs⟩:=s1
 obtain ⟨hk,hvl,hvs,hV,kk1,xx1⟩:=hI1
 replace hk:k≤(upL (2*((m:Nat):Int)) ((L:Nat):Int) K).length:=hk
 replace hvl:vs.length=ts.length:=hvl
 replace hvs:vs=blkL (us.set (2*m) nd) (2*((m:Nat):Int)) ((L:Nat):Int) (List.range k):=hvs
 replace hV:OwH W1.heap.size vs (.slice (some ⟨gO,0,none⟩) ts.length cO) V1 (some (2*m)):=hV
 replace kk1:QaQ [gO] W5 V1:=kk1
 replace xx1:Ext w V1:=xx1
 have q6:=kk1
 obtain ⟨-,cuV,rOv⟩:=hV.rowBlock (g:=gO) rfl
 refine wp_seq_k fun K11 hK11=>?_
 refine wp_seq_k fun K12 hK12=>?_
 refine Qab ?_
 refine Qaa (.int .i64 ((k:Nat):Int)) 23 rfl kj kj ?_
 refine Qaa (.slice ap ((upL (2*((m:Nat):Int)) ((L:Nat):Int) K).length) cp) 24 rfl kj kj ?_
 refine Qaa (.int .i64 (((upL (2*((m:Nat):Int)) ((L:Nat):Int) K).length:Nat):Int)) 25 rfl kj kj ?_
 refine Qaa (.bool (decide (((k:Nat):Int)<(((upL (2*((m:Nat):Int)) ((L:Nat):Int) K).length:Nat):Int)))) 26 rfl kj kj ?_
 refine Qae ?_
 refine hK12 _ _ ?_
 refine Qat (t:=decide (((k:Nat):Int)<(((upL (2*((m:Nat):Int)) ((L:Nat):Int) K).length:Nat):Int))) kj (fun c13=>?_) (fun c13=>?_)
 ·skip
  have hlt26:k<(upL (2*((m:Nat):Int)) ((L:Nat):Int) K).length:=by have:=of_decide_eq_true c13; omega
  have f15_6:=(OwnN.keepsL hv8 q6 (QfV nbp QhP))
  have hnx_14:(upL (2*((m:Nat):Int)) ((L:Nat):Int) K).length=(upL (2*((m:Nat):Int)) ((L:Nat):Int) K).length:=rfl
  obtain ⟨gcx_14,ocx_14,hax_14,hlx_14,hcx_14⟩:=QaZ (OwnN.rd f15_6) (by rw [hnx_14]; omega)
  have hkK:k<K:=by rw [QcM] at hlt26; exact hlt26
  have hk0:=hall k hkK
  obtain ⟨u,hu⟩:∃ u,u=upN (2*((m:Nat):Int)) ((L:Nat):Int) k:=⟨_,rfl⟩
  have hue:=Qb8 hk0
  rw [←hu] at hue
  have huo:=QcL hk0
  have hul:=Qdz (x:=2*((m:Nat):Int)) k hTr
  rw [←hu] at hul
  have hnu:nth (upL (2*((m:Nat):Int)) ((L:Nat):Int) K) k=((u:Nat):Int):=(QfL hkK).trans hue.symm
  refine wp_skip ?_
  refine hK11 _ _ ?_
  refine wp_seq_k fun K16 hK16=>?_
  refine wp_block ?_
  refine Qab ?_
  refine Qaa (.slice (some ⟨gO,0,none⟩) ts.length cO) 29 rfl kj kj ?_
  refine Qaa (.slice ap ((upL (2*((m:Nat):Int)) ((L:Nat):Int) K).length) cp) 30 rfl kj kj ?_
  refine Qaa (.int .i64 ((k:Nat):Int)) 31 rfl kj kj ?_
  refine Qaa (.pointer (some ⟨gcx_14,ocx_14+k,none⟩)) 32 rfl kj (QaA 36 _ _ .i64 k gcx_14 ocx_14 ((upL (2*((m:Nat):Int)) ((L:Nat):Int) K).length) cp 3 ap _ hax_14 rfl rfl kj kj kj kj (Nat.lt_of_lt_of_eq (show k<(upL (2*((m:Nat):Int)) ((L:Nat):Int) K).length by omega) hnx_14.symm)) ?_
  refine Qaa (.int .i64 ((u:Nat):Int)) 33 rfl kj (by rw [←hnu]; exact (Qaj 3 _ _ (.int .i64 (nth (upL (2*((m:Nat):Int)) ((L:Nat):Int) K) (k))) (hcx_14 k (Nat.lt_of_lt_of_eq (show k<(upL (2*((m:Nat):Int)) ((L:Nat):Int) K).length by omega) hnx_14.symm)) rfl kj kj)) ?_
  refine Qaa (.agg (cat [#[.bool false],#[.int .i64 0],ints .u8 (List.replicate 32 0),ints .u8 (List.replicate 32 0),ints .u8 (List.replicate 32 0),#[.slice none 0 0]])) 34 rfl kj kj ?_
  refine Qaa (.pointer (some ⟨gO,0+u*99,none⟩)) 35 rfl kj (Qa6 23 _ _ .i64 u gO 0 ts.length cO 41 99 rfl kj kj kj kj (by omega)) ?_
  refine QiC 41 _ _ gO (2*m) u cO hvl hV (by omega) (by omega) rfl kj kj kj rfl kj fun W7 p7 hV2=>?_
  have x7:Ext w W7:=Puts.ext p7 xx1 bgO
  refine Qae ?_
  refine hK16 _ _ ?_
  refine Qab ?_
  refine Qaa (.int .i64 ((k:Nat):Int)) 27 rfl kj kj ?_
  refine Qaa (.int .i64 ((k+1:Nat):Int)) 28 rfl kj (Qai (u:=.int .i64 (IntKind.i64.wrap (((k:Nat):Int)+1))) kj (congrArg (Value.int .i64) (i64n _ _ (by omega) (by omega)))) ?_
  refine Qaa (.int .i64 ((k+1:Nat):Int)) 9 rfl kj kj ?_
  refine Qae ?_
  repeat (first | with_reducible refine goX1 ?_ | with_reducible refine goX2 ?_ | with_reducible refine goX3 ?_)
  exact Qas ((k+1),(vs.set u zn)) ⟨rfl,rfl,rfl,trivial⟩ ⟨(by omega),((List.length_set ..).trans hvl),(by rw [List.range_succ,QgG,←hvs,hu]),hV2,(QaQ.puts q6 p7 (.inl (by simp))),x7⟩ (by show (upL (2*((m:Nat):Int)) ((L:Nat):Int) K).length-(k+1)<(upL (2*((m:Nat):Int)) ((L:Nat):Int) K).length-k; omega)
 ·skip
  have heq26:k=(upL (2*((m:Nat):Int)) ((L:Nat):Int) K).length:=by have:=of_decide_eq_false c13; omega
  refine wp_exit ?_
  refine hK9 _ _ ?_
  refine wp_seq_k fun K17 hK17=>?_
  refine Qab ?_
  refine Qaa (.slice (some ⟨gO,0,none⟩) ts.length cO) 36 rfl kj kj ?_
  refine Qaa (.slice (some ⟨gO,0,none⟩) ts.length cO) 6 rfl kj kj ?_
  refine Qae ?_
  refine hK17 _ _ ?_
  refine wp_ret ?_
  repeat (first | with_reducible refine goR1 ?_ | with_reducible refine goR2 ?_)
  have hvE:vs=blkT (us.set (2*m) nd) (2*((m:Nat):Int)) ((L:Nat):Int):=by rw [hvs,heq26,QcM]; show _=blkL (us.set (2*m) nd) (2*((m:Nat):Int)) ((L:Nat):Int) (pthL (2*((m:Nat):Int)) ((L:Nat):Int)); rw [QdY hK hneg hall]
  have hnd2:ndi vs (2*m)=nd:=by rw [hvE,Qdh,QaC nd (by omega),if_pos rfl]
  have hVf:=hV.low x1.size
  rw [←hvl] at hVf
  have hfr:=hVf.frE (by rw [hnd2]; exact hms) (by rw [hnd2]; exact rdE hr0)
  rw [hvl,hvE] at hfr
  exact (show bodyPost _ _ _ .ret _ _ from ret1 (.slice (some ⟨gO,0,none⟩) ts.length cO) rfl (Qam kj) ⟨_,rfl,xx1,us,has,hfr,(by rw [Qcv,List.length_set]; exact has.1),_,_,rfl,hcO⟩)
end Go.Proofs.YtcmaolmofgmkhaaDoor.Te
end
section
namespace Go.Proofs.YtcmaolmofgmkhaaDoor.Te
open Go Go.RowKit
open Rely Auto Own Seat Sha
theorem FrT.low {a b:Nat} {us:List NdV} {v:Value} {W:World} (h:FrT b us v W) (hab:a≤b):FrT a us v W:=by
  obtain ⟨x,c,e,h1,h2,h3⟩:=h
  exact ⟨x,c,e,h1,h2.mono fun g hg=>qT hab hg,h3⟩
theorem atN (ts : List NdV) (a_t:Option Addr) (c_t B1:Nat) (w:World) (ht:TrAt B1 w a_t ts) (htl:ts.length≤100000) (L:Nat) (hlen:ts.length+1=2*L) (hL3:L≤32) (n:Int) (hn:n<0∨((L:Nat):Int)≤n):Calls Tryd.prog 57 #[.slice a_t ts.length c_t,.int .i64 n] w (Ret w (.bool false)):=by
  by_cases h0:n<0
  · exact QlZ ts a_t c_t B1 w ht htl n h0
  · by_cases h1:32≤n
    · exact QlY ts a_t c_t B1 w ht htl n (by omega) h1
    · exact QlX ts a_t c_t B1 w ht htl n (by omega) (by omega) (by omega)
end Go.Proofs.YtcmaolmofgmkhaaDoor.Te
end
section
namespace Go.Proofs.YtcmaolmofgmkhaaDoor.Te
open Go Go.RowKit
open Rely Auto Own Seat Sha
section
variable {P : Program} {ρ : Operand → Value} {o : Oper} {w : World}
theorem QgV (t : TypeId) (x y:Operand) (h:Nat) (e:TypeId) (ho:o.op=.slice t x none (some y) none) {a:Option Addr} {len cap:Nat} (hx:ρ x=.slice a len cap)
    (hu:P.underlying t=some (.slice e)) (ky:IntKind) (hy:ρ y=.int ky (h:Int)) (sz:Nat) (hs:(P.info? e).map (·.size)=some sz) (h2:h≤cap) :
    (execOp ρ o).run P w=.ok (.value (.slice a h cap)) w:=by
  cases hq:P.info? e with
  | none=>simp [hq] at hs
  | some i =>
    have hs':i.size=sz:=by simpa [hq] using hs
    unfold execOp
    have hadd:∀ a:Option Addr,Option.map (fun x=>x.add 0) a=a:=fun a=>by
      cases a with
      | none=>rfl
      | some a=>obtain ⟨b,o,s⟩:=a; cases s <;> simp [Addr.add]
    simp [ho,hx,hy,Instr.sliceAt,Instr.slice,Instr.sliceBounds,run_sliceBound,run_underlying hu,sizeOf,typeInfo,hq,hs',h2,hadd]
end
theorem Qlb {M : Nat} (ts:List NdV) (a_t:Option Addr) (c_t B1:Nat) (w:World) (ht:TrAt B1 w a_t ts) (hM:ts.length=M) (htl:ts.length≤100000) (k:Nat) (hk:k≤100000):Calls Tryd.prog 41 #[.slice a_t M c_t,.int .i64 ((k:Nat):Int)] w (Ret w (.bool (anyU ts k))):=by
  subst hM
  exact QjM ts a_t c_t B1 w ht htl k hk
set_option maxRecDepth 100000 in
theorem Qh2 (ts : List NdV) (a_t:Option Addr) (c_t B1:Nat) (w:World) (ht:TrAt B1 w a_t ts) (htl:ts.length≤100000) (hmt:∀ i,i<ts.length→(ndi ts i).n.ms.length≤1000) (hc:chkT ts=false) (n:Int):Calls Tryd.prog 30 #[.slice a_t ts.length c_t,.int .i64 n] w (Ret w (.tuple #[.slice none 0 0,.int .i64 3])):=by
  refine enter 50 [(0,.slice a_t ts.length c_t),(1,.int .i64 n)] Tryd.func30 rfl rfl kj rfl ?_
  refine wp_seq_k fun K1 hK1=>?_
  refine Qab ?_
  refine Qaa (.slice none 0 0) 4 rfl kj kj ?_
  refine Qaa (.int .i64 0) 5 rfl kj kj ?_
  refine Qae ?_
  refine hK1 _ _ ?_
  refine wp_seq_k fun K2 hK2=>?_
  refine wp_seq_k fun K3 hK3=>?_
  refine Qab ?_
  refine Qaa (.slice a_t ts.length c_t) 9 rfl kj kj ?_
  refine Qal (.bool false) 12 #[.slice a_t ts.length c_t] 10 rfl kj kj (Qeo ts a_t c_t _ _ (TrAt.ext ht (Rely.Ext.refl w)) htl (fun i hi=>qT (hmt i hi) (by decide)) false hc) fun W1 e1=>?_
  have x1:Ext w W1:=Ext.tr (Rely.Ext.refl w) e1
  refine Qaa (.bool true) 11 rfl kj kj ?_
  refine Qae ?_
  refine hK3 _ _ ?_
  refine cond_true kj ?_
  refine wp_seq_k fun K4 hK4=>?_
  refine Qab ?_
  refine Qaa (.slice none 0 0) 4 rfl kj kj ?_
  refine Qaa (.int .i64 3) 5 rfl kj kj ?_
  refine Qae ?_
  refine hK4 _ _ ?_
  refine wp_ret ?_
  repeat (first | with_reducible refine goR1 ?_ | with_reducible refine goR2 ?_)
  exact (show bodyPost _ _ _ .ret _ _ from ret2 (.slice none 0 0) (.int .i64 3) rfl (Qam kj) (Qam kj) ⟨rfl,x1⟩)
set_option maxRecDepth 100000 in
theorem Qf0 (ts : List NdV) (a_t:Option Addr) (c_t B1:Nat) (w:World) (ht:TrAt B1 w a_t ts) (htl:ts.length≤100000) (hmt:∀ i,i<ts.length→(ndi ts i).n.ms.length≤1000) (hc:chkT ts=true) (L:Nat) (hL:leaves ((ts.length:Nat):Int)=((L:Nat):Int)) (hL3:L≤32) (hlen:ts.length+1=2*L) (hTr:Qax ((L:Nat):Int)=true) (n:Int) (hn:n<0∨((L:Nat):Int)≤n):Calls Tryd.prog 30 #[.slice a_t ts.length c_t,.int .i64 n] w (Ret w (.tuple #[.slice none 0 0,.int .i64 9])):=by
 refine enter 50 [(0,.slice a_t ts.length c_t),(1,.int .i64 n)] Tryd.func30 rfl rfl kj rfl ?_
 refine wp_seq_k fun K1 hK1=>?_
 refine Qab ?_
 refine Qaa (.slice none 0 0) 4 rfl kj kj ?_
 refine Qaa (.int .i64 0) 5 rfl kj kj ?_
 refine Qae ?_
 refine hK1 _ _ ?_
 refine wp_seq_k fun K2 hK2=>?_
 refine wp_seq_k fun K3 hK3=>?_
 refine Qab ?_
 refine Qaa (.slice a_t ts.length c_t) 9 rfl kj kj ?_
 refine Qal (.bool true) 12 #[.slice a_t ts.length c_t] 10 rfl kj kj (Qeo ts a_t c_t _ _ (TrAt.ext ht (Rely.Ext.refl w)) htl (fun i hi=>qT (hmt i hi) (by decide)) true hc) fun W1 e1=>?_
 have x1:Ext w W1:=Ext.tr (Rely.Ext.refl w) e1
 refine Qaa (.bool false) 11 rfl kj kj ?_
 refine Qae ?_
 refine hK3 _ _ ?_
 refine cond_false kj ?_
 refine wp_skip ?_
 refine hK2 _ _ ?_
 refine wp_seq_k fun K4 hK4=>?_
 refine Qab ?_
 refine Qaa (.int .i64 0) 6 rfl kj kj ?_
 refine Qae ?_
 refine hK4 _ _ ?_
 refine wp_seq_k fun K5 hK5=>?_
 refine wp_seq_k fun K6 hK6=>?_
 refine Qab ?_
 refine Qaa (.int .i64 0) 7 rfl kj kj ?_
 refine Qae ?_
 refine hK6 _ _ ?_
 refine wp_block ?_
 refine Qaz (fun (s1:Nat)=>[(0,.slice a_t ts.length c_t),(1,.int .i64 n),(6,.int .i64 (((QaD ts s1).length:Nat):Int)),(7,.int .i64 ((2*s1:Nat):Int))]) (fun (s1:Nat) W=>(s1≤L)∧(Ext W1 W)∧(Ext w W)) (fun (s1:Nat)=>L+1-s1) 0 ⟨rfl,rfl,rfl,rfl,trivial⟩ ⟨(Nat.zero_le _),(Rely.Ext.refl W1),x1⟩ fun s1 X1 V1 hI1=>?_
 obtain ⟨k,hs1⟩:∃ z,z=s1:=⟨_,rfl⟩
 subst hs1
 obtain ⟨hkl,kk1,xx1⟩:=hI1
 replace hkl:k≤L:=hkl
 replace kk1:Ext W1 V1:=kk1
 replace xx1:Ext w V1:=xx1
 have e2:=kk1
 refine wp_seq_k fun K7 hK7=>?_
 refine wp_seq_k fun K8 hK8=>?_
 refine Qab ?_
 refine Qaa (.int .i64 ((2*k:Nat):Int)) 12 rfl kj kj ?_
 refine Qaa (.slice a_t ts.length c_t) 13 rfl kj kj ?_
 refine Qaa (.int .i64 ((ts.length:Nat):Int)) 14 rfl kj kj ?_
 refine Qaa (.bool (decide (((2*k:Nat):Int)<((ts.length:Nat):Int)))) 15 rfl kj kj ?_
 refine Qae ?_
 refine hK8 _ _ ?_
 refine Qat (t:=decide (((2*k:Nat):Int)<((ts.length:Nat):Int))) kj (fun c9=>?_) (fun c9=>?_)
 ·skip
  have h15:2*k<ts.length:=by have:=of_decide_eq_true c9; omega
  refine wp_skip ?_
  refine hK7 _ _ ?_
  refine wp_seq_k fun K10 hK10=>?_
  refine wp_block ?_
  refine wp_seq_k fun K11 hK11=>?_
  refine Qab ?_
  refine Qaa (.slice a_t ts.length c_t) 18 rfl kj kj ?_
  refine Qaa (.int .i64 ((2*k:Nat):Int)) 19 rfl kj kj ?_
  obtain ⟨gtT,otT,hat,hnts⟩:=TrAt.ext ht xx1
  have hnt:=hnts (2*k) (by omega)
  obtain ⟨nt,ent⟩:∃ z,z=ndi ts (2*k):=⟨_,rfl⟩
  rw [←ent] at hnt
  have okt:=hnt.ok
  have rdt:=hnt.rd
  refine Qaa (.pointer (some ⟨gtT,otT+(2*k)*99,none⟩)) 20 rfl kj (Qao 23 _ _ .i64 (2*k) gtT otT ts.length c_t 41 99 a_t (hat (by omega)) rfl kj kj kj kj (by omega)) ?_
  refine Qaa (.pointer (some ⟨gtT,otT+(2*k)*99,none⟩)) 21 rfl kj kj ?_
  refine Qaa (.bool nt.n.us) 22 rfl kj (Qaj 4 _ _ (.bool nt.n.us) (NdAt.at3 hnt).1 rfl kj kj) ?_
  refine Qae ?_
  refine hK11 _ _ ?_
  refine Qat (t:=nt.n.us) kj (fun c12=>?_) (fun c12=>?_)
  ·skip
   have hcn:(ndi ts (2*k)).n.us=true:=ent▸c12
   have hul:=Qbu ts k
   refine Qab ?_
   refine Qaa (.int .i64 (((QaD ts k).length:Nat):Int)) 23 rfl kj kj ?_
   refine Qaa (.int .i64 ((((QaD ts k).length+1:Nat):Int))) 24 rfl kj (Qai (u:=.int .i64 (IntKind.i64.wrap ((((QaD ts k).length:Nat):Int)+1))) kj (congrArg (Value.int .i64) (i64n _ _ (by omega) (by omega)))) ?_
   refine Qaa (.int .i64 ((((QaD ts k).length+1:Nat):Int))) 6 rfl kj kj ?_
   refine Qae ?_
   refine hK10 _ _ ?_
   refine Qab ?_
   refine Qaa (.int .i64 ((2*k:Nat):Int)) 16 rfl kj kj ?_
   refine Qaa (.int .i64 (((2*(k+1):Nat):Int))) 17 rfl kj (Qai (u:=.int .i64 (IntKind.i64.wrap (((2*k:Nat):Int)+2))) kj (congrArg (Value.int .i64) ((IntWalk.i64_in _ (by omega)).trans (by omega)))) ?_
   refine Qaa (.int .i64 (((2*(k+1):Nat):Int))) 7 rfl kj kj ?_
   refine Qae ?_
   have hul2:(QaD ts (k+1)).length=(QaD ts k).length+1:=by rw [QbX hcn]; simp
   rw [←hul2]
   repeat (first | with_reducible refine goX1 ?_ | with_reducible refine goX2 ?_ | with_reducible refine goX3 ?_)
   exact Qas (k+1) ⟨rfl,rfl,rfl,rfl,trivial⟩ ⟨(by omega),e2,xx1⟩ (by show L+1-(k+1)<L+1-k; omega)
  ·skip
   have hcn:(ndi ts (2*k)).n.us=false:=ent▸c12
   have hul:=Qbu ts k
   refine wp_skip ?_
   refine hK10 _ _ ?_
   refine Qab ?_
   refine Qaa (.int .i64 ((2*k:Nat):Int)) 16 rfl kj kj ?_
   refine Qaa (.int .i64 (((2*(k+1):Nat):Int))) 17 rfl kj (Qai (u:=.int .i64 (IntKind.i64.wrap (((2*k:Nat):Int)+2))) kj (congrArg (Value.int .i64) ((IntWalk.i64_in _ (by omega)).trans (by omega)))) ?_
   refine Qaa (.int .i64 (((2*(k+1):Nat):Int))) 7 rfl kj kj ?_
   refine Qae ?_
   have hul2:(QaD ts (k+1)).length=(QaD ts k).length:=by rw [Qco hcn]
   rw [←hul2]
   repeat (first | with_reducible refine goX1 ?_ | with_reducible refine goX2 ?_ | with_reducible refine goX3 ?_)
   exact Qas (k+1) ⟨rfl,rfl,rfl,rfl,trivial⟩ ⟨(by omega),e2,xx1⟩ (by show L+1-(k+1)<L+1-k; omega)
 ·skip
  have hkL:k=L:=by have:=of_decide_eq_false c9; omega
  refine wp_exit ?_
  refine hK5 _ _ ?_
  refine wp_seq_k fun K13 hK13=>?_
  refine wp_seq_k fun K14 hK14=>?_
  refine Qab ?_
  refine Qaa (.slice a_t ts.length c_t) 25 rfl kj kj ?_
  refine Qaa (.int .i64 n) 26 rfl kj kj ?_
  refine Qal (.bool false) 57 #[.slice a_t ts.length c_t,.int .i64 n] 27 rfl kj kj (atN ts a_t c_t _ _ (TrAt.ext ht xx1) htl L hlen hL3 n hn) fun W3 e3=>?_
  have x3:Ext w W3:=Ext.tr xx1 e3
  refine Qaa (.bool true) 28 rfl kj kj ?_
  refine Qaa (.bool true) 29 rfl kj kj ?_
  refine Qad 30 rfl kj ?_
  refine Qad 31 rfl kj ?_
  refine Qaa (.bool true) 32 rfl kj kj ?_
  refine Qae ?_
  refine hK14 _ _ ?_
  refine cond_true kj ?_
  refine wp_seq_k fun K15 hK15=>?_
  refine Qab ?_
  refine Qaa (.slice none 0 0) 4 rfl kj kj ?_
  refine Qaa (.int .i64 9) 5 rfl kj kj ?_
  refine Qae ?_
  refine hK15 _ _ ?_
  refine wp_ret ?_
  repeat (first | with_reducible refine goR1 ?_ | with_reducible refine goR2 ?_)
  exact (show bodyPost _ _ _ .ret _ _ from ret2 (.slice none 0 0) (.int .i64 9) rfl (Qam kj) (Qam kj) ⟨rfl,x3⟩)
set_option maxRecDepth 100000 in
theorem Qh4 (ts : List NdV) (a_t:Option Addr) (c_t B1:Nat) (w:World) (ht:TrAt B1 w a_t ts) (htl:ts.length≤100000) (hmt:∀ i,i<ts.length→(ndi ts i).n.ms.length≤1000) (hc:chkT ts=true) (L:Nat) (hL:leaves ((ts.length:Nat):Int)=((L:Nat):Int)) (hL3:L≤32) (hlen:ts.length+1=2*L) (hTr:Qax ((L:Nat):Int)=true) (m:Nat) (hm:m<L) (hus:(ndi ts (2*m)).n.us=false):Calls Tryd.prog 30 #[.slice a_t ts.length c_t,.int .i64 ((m:Nat):Int)] w (Ret w (.tuple #[.slice none 0 0,.int .i64 9])):=by
 refine enter 50 [(0,.slice a_t ts.length c_t),(1,.int .i64 ((m:Nat):Int))] Tryd.func30 rfl rfl kj rfl ?_
 refine wp_seq_k fun K1 hK1=>?_
 refine Qab ?_
 refine Qaa (.slice none 0 0) 4 rfl kj kj ?_
 refine Qaa (.int .i64 0) 5 rfl kj kj ?_
 refine Qae ?_
 refine hK1 _ _ ?_
 refine wp_seq_k fun K2 hK2=>?_
 refine wp_seq_k fun K3 hK3=>?_
 refine Qab ?_
 refine Qaa (.slice a_t ts.length c_t) 9 rfl kj kj ?_
 refine Qal (.bool true) 12 #[.slice a_t ts.length c_t] 10 rfl kj kj (Qeo ts a_t c_t _ _ (TrAt.ext ht (Rely.Ext.refl w)) htl (fun i hi=>qT (hmt i hi) (by decide)) true hc) fun W1 e1=>?_
 have x1:Ext w W1:=Ext.tr (Rely.Ext.refl w) e1
 refine Qaa (.bool false) 11 rfl kj kj ?_
 refine Qae ?_
 refine hK3 _ _ ?_
 refine cond_false kj ?_
 refine wp_skip ?_
 refine hK2 _ _ ?_
 refine wp_seq_k fun K4 hK4=>?_
 refine Qab ?_
 refine Qaa (.int .i64 0) 6 rfl kj kj ?_
 refine Qae ?_
 refine hK4 _ _ ?_
 refine wp_seq_k fun K5 hK5=>?_
 refine wp_seq_k fun K6 hK6=>?_
 refine Qab ?_
 refine Qaa (.int .i64 0) 7 rfl kj kj ?_
 refine Qae ?_
 refine hK6 _ _ ?_
 refine wp_block ?_
 refine Qaz (fun (s1:Nat)=>[(0,.slice a_t ts.length c_t),(1,.int .i64 ((m:Nat):Int)),(6,.int .i64 (((QaD ts s1).length:Nat):Int)),(7,.int .i64 ((2*s1:Nat):Int))]) (fun (s1:Nat) W=>(s1≤L)∧(Ext W1 W)∧(Ext w W)) (fun (s1:Nat)=>L+1-s1) 0 ⟨rfl,rfl,rfl,rfl,trivial⟩ ⟨(Nat.zero_le _),(Rely.Ext.refl W1),x1⟩ fun s1 X1 V1 hI1=>?_
 obtain ⟨k,hs1⟩:∃ z,z=s1:=⟨_,rfl⟩
 subst hs1
 obtain ⟨hkl,kk1,xx1⟩:=hI1
 replace hkl:k≤L:=hkl
 replace kk1:Ext W1 V1:=kk1
 replace xx1:Ext w V1:=xx1
 have e2:=kk1
 refine wp_seq_k fun K7 hK7=>?_
 refine wp_seq_k fun K8 hK8=>?_
 refine Qab ?_
 refine Qaa (.int .i64 ((2*k:Nat):Int)) 12 rfl kj kj ?_
 refine Qaa (.slice a_t ts.length c_t) 13 rfl kj kj ?_
 refine Qaa (.int .i64 ((ts.length:Nat):Int)) 14 rfl kj kj ?_
 refine Qaa (.bool (decide (((2*k:Nat):Int)<((ts.length:Nat):Int)))) 15 rfl kj kj ?_
 refine Qae ?_
 refine hK8 _ _ ?_
 refine Qat (t:=decide (((2*k:Nat):Int)<((ts.length:Nat):Int))) kj (fun c9=>?_) (fun c9=>?_)
 ·skip
  have h15:2*k<ts.length:=by have:=of_decide_eq_true c9; omega
  refine wp_skip ?_
  refine hK7 _ _ ?_
  refine wp_seq_k fun K10 hK10=>?_
  refine wp_block ?_
  refine wp_seq_k fun K11 hK11=>?_
  refine Qab ?_
  refine Qaa (.slice a_t ts.length c_t) 18 rfl kj kj ?_
  refine Qaa (.int .i64 ((2*k:Nat):Int)) 19 rfl kj kj ?_
  obtain ⟨gtT,otT,hat,hnts⟩:=TrAt.ext ht xx1
  have hnt:=hnts (2*k) (by omega)
  obtain ⟨nt,ent⟩:∃ z,z=ndi ts (2*k):=⟨_,rfl⟩
  rw [←ent] at hnt
  have okt:=hnt.ok
  have rdt:=hnt.rd
  refine Qaa (.pointer (some ⟨gtT,otT+(2*k)*99,none⟩)) 20 rfl kj (Qao 23 _ _ .i64 (2*k) gtT otT ts.length c_t 41 99 a_t (hat (by omega)) rfl kj kj kj kj (by omega)) ?_
  refine Qaa (.pointer (some ⟨gtT,otT+(2*k)*99,none⟩)) 21 rfl kj kj ?_
  refine Qaa (.bool nt.n.us) 22 rfl kj (Qaj 4 _ _ (.bool nt.n.us) (NdAt.at3 hnt).1 rfl kj kj) ?_
  refine Qae ?_
  refine hK11 _ _ ?_
  refine Qat (t:=nt.n.us) kj (fun c12=>?_) (fun c12=>?_)
  ·skip
   have hcn:(ndi ts (2*k)).n.us=true:=ent▸c12
   have hul:=Qbu ts k
   refine Qab ?_
   refine Qaa (.int .i64 (((QaD ts k).length:Nat):Int)) 23 rfl kj kj ?_
   refine Qaa (.int .i64 ((((QaD ts k).length+1:Nat):Int))) 24 rfl kj (Qai (u:=.int .i64 (IntKind.i64.wrap ((((QaD ts k).length:Nat):Int)+1))) kj (congrArg (Value.int .i64) (i64n _ _ (by omega) (by omega)))) ?_
   refine Qaa (.int .i64 ((((QaD ts k).length+1:Nat):Int))) 6 rfl kj kj ?_
   refine Qae ?_
   refine hK10 _ _ ?_
   refine Qab ?_
   refine Qaa (.int .i64 ((2*k:Nat):Int)) 16 rfl kj kj ?_
   refine Qaa (.int .i64 (((2*(k+1):Nat):Int))) 17 rfl kj (Qai (u:=.int .i64 (IntKind.i64.wrap (((2*k:Nat):Int)+2))) kj (congrArg (Value.int .i64) ((IntWalk.i64_in _ (by omega)).trans (by omega)))) ?_
   refine Qaa (.int .i64 (((2*(k+1):Nat):Int))) 7 rfl kj kj ?_
   refine Qae ?_
   have hul2:(QaD ts (k+1)).length=(QaD ts k).length+1:=by rw [QbX hcn]; simp
   rw [←hul2]
   repeat (first | with_reducible refine goX1 ?_ | with_reducible refine goX2 ?_ | with_reducible refine goX3 ?_)
   exact Qas (k+1) ⟨rfl,rfl,rfl,rfl,trivial⟩ ⟨(by omega),e2,xx1⟩ (by show L+1-(k+1)<L+1-k; omega)
  ·skip
   have hcn:(ndi ts (2*k)).n.us=false:=ent▸c12
   have hul:=Qbu ts k
   refine wp_skip ?_
   refine hK10 _ _ ?_
   refine Qab ?_
   refine Qaa (.int .i64 ((2*k:Nat):Int)) 16 rfl kj kj ?_
   refine Qaa (.int .i64 (((2*(k+1):Nat):Int))) 17 rfl kj (Qai (u:=.int .i64 (IntKind.i64.wrap (((2*k:Nat):Int)+2))) kj (congrArg (Value.int .i64) ((IntWalk.i64_in _ (by omega)).trans (by omega)))) ?_
   refine Qaa (.int .i64 (((2*(k+1):Nat):Int))) 7 rfl kj kj ?_
   refine Qae ?_
   have hul2:(QaD ts (k+1)).length=(QaD ts k).length:=by rw [Qco hcn]
   rw [←hul2]
   repeat (first | with_reducible refine goX1 ?_ | with_reducible refine goX2 ?_ | with_reducible refine goX3 ?_)
   exact Qas (k+1) ⟨rfl,rfl,rfl,rfl,trivial⟩ ⟨(by omega),e2,xx1⟩ (by show L+1-(k+1)<L+1-k; omega)
 ·skip
  have hkL:k=L:=by have:=of_decide_eq_false c9; omega
  refine wp_exit ?_
  refine hK5 _ _ ?_
  refine wp_seq_k fun K13 hK13=>?_
  refine wp_seq_k fun K14 hK14=>?_
  refine Qab ?_
  refine Qaa (.slice a_t ts.length c_t) 25 rfl kj kj ?_
  refine Qaa (.int .i64 ((m:Nat):Int)) 26 rfl kj kj ?_
  refine Qal (.bool false) 57 #[.slice a_t ts.length c_t,.int .i64 ((m:Nat):Int)] 27 rfl kj kj ((hus▸QkS ts a_t c_t _ _ (TrAt.ext ht xx1) htl m (by omega) (by omega))) fun W3 e3=>?_
  have x3:Ext w W3:=Ext.tr xx1 e3
  refine Qaa (.bool true) 28 rfl kj kj ?_
  refine Qaa (.bool true) 29 rfl kj kj ?_
  refine Qad 30 rfl kj ?_
  refine Qad 31 rfl kj ?_
  refine Qaa (.bool true) 32 rfl kj kj ?_
  refine Qae ?_
  refine hK14 _ _ ?_
  refine cond_true kj ?_
  refine wp_seq_k fun K15 hK15=>?_
  refine Qab ?_
  refine Qaa (.slice none 0 0) 4 rfl kj kj ?_
  refine Qaa (.int .i64 9) 5 rfl kj kj ?_
  refine Qae ?_
  refine hK15 _ _ ?_
  refine wp_ret ?_
  repeat (first | with_reducible refine goR1 ?_ | with_reducible refine goR2 ?_)
  exact (show bodyPost _ _ _ .ret _ _ from ret2 (.slice none 0 0) (.int .i64 9) rfl (Qam kj) (Qam kj) ⟨rfl,x3⟩)
set_option maxRecDepth 100000 in
theorem Qh3 (ts : List NdV) (a_t:Option Addr) (c_t B1:Nat) (w:World) (ht:TrAt B1 w a_t ts) (htl:ts.length≤100000) (hmt:∀ i,i<ts.length→(ndi ts i).n.ms.length≤1000) (hc:chkT ts=true) (L:Nat) (hL:leaves ((ts.length:Nat):Int)=((L:Nat):Int)) (hL3:L≤32) (hlen:ts.length+1=2*L) (hTr:Qax ((L:Nat):Int)=true) (m:Nat) (hm:m<L) (hus:(ndi ts (2*m)).n.us=true) (hal:((((QaD ts L).length:Nat):Int)==1)=true):Calls Tryd.prog 30 #[.slice a_t ts.length c_t,.int .i64 ((m:Nat):Int)] w (Ret w (.tuple #[.slice none 0 0,.int .i64 9])):=by
 refine enter 50 [(0,.slice a_t ts.length c_t),(1,.int .i64 ((m:Nat):Int))] Tryd.func30 rfl rfl kj rfl ?_
 refine wp_seq_k fun K1 hK1=>?_
 refine Qab ?_
 refine Qaa (.slice none 0 0) 4 rfl kj kj ?_
 refine Qaa (.int .i64 0) 5 rfl kj kj ?_
 refine Qae ?_
 refine hK1 _ _ ?_
 refine wp_seq_k fun K2 hK2=>?_
 refine wp_seq_k fun K3 hK3=>?_
 refine Qab ?_
 refine Qaa (.slice a_t ts.length c_t) 9 rfl kj kj ?_
 refine Qal (.bool true) 12 #[.slice a_t ts.length c_t] 10 rfl kj kj (Qeo ts a_t c_t _ _ (TrAt.ext ht (Rely.Ext.refl w)) htl (fun i hi=>qT (hmt i hi) (by decide)) true hc) fun W1 e1=>?_
 have x1:Ext w W1:=Ext.tr (Rely.Ext.refl w) e1
 refine Qaa (.bool false) 11 rfl kj kj ?_
 refine Qae ?_
 refine hK3 _ _ ?_
 refine cond_false kj ?_
 refine wp_skip ?_
 refine hK2 _ _ ?_
 refine wp_seq_k fun K4 hK4=>?_
 refine Qab ?_
 refine Qaa (.int .i64 0) 6 rfl kj kj ?_
 refine Qae ?_
 refine hK4 _ _ ?_
 refine wp_seq_k fun K5 hK5=>?_
 refine wp_seq_k fun K6 hK6=>?_
 refine Qab ?_
 refine Qaa (.int .i64 0) 7 rfl kj kj ?_
 refine Qae ?_
 refine hK6 _ _ ?_
 refine wp_block ?_
 refine Qaz (fun (s1:Nat)=>[(0,.slice a_t ts.length c_t),(1,.int .i64 ((m:Nat):Int)),(6,.int .i64 (((QaD ts s1).length:Nat):Int)),(7,.int .i64 ((2*s1:Nat):Int))]) (fun (s1:Nat) W=>(s1≤L)∧(Ext W1 W)∧(Ext w W)) (fun (s1:Nat)=>L+1-s1) 0 ⟨rfl,rfl,rfl,rfl,trivial⟩ ⟨(Nat.zero_le _),(Rely.Ext.refl W1),x1⟩ fun s1 X1 V1 hI1=>?_
 obtain ⟨k,hs1⟩:∃ z,z=s1:=⟨_,rfl⟩
 subst hs1
 obtain ⟨hkl,kk1,xx1⟩:=hI1
 replace hkl:k≤L:=hkl
 replace kk1:Ext W1 V1:=kk1
 replace xx1:Ext w V1:=xx1
 have e2:=kk1
 refine wp_seq_k fun K7 hK7=>?_
 refine wp_seq_k fun K8 hK8=>?_
 refine Qab ?_
 refine Qaa (.int .i64 ((2*k:Nat):Int)) 12 rfl kj kj ?_
 refine Qaa (.slice a_t ts.length c_t) 13 rfl kj kj ?_
 refine Qaa (.int .i64 ((ts.length:Nat):Int)) 14 rfl kj kj ?_
 refine Qaa (.bool (decide (((2*k:Nat):Int)<((ts.length:Nat):Int)))) 15 rfl kj kj ?_
 refine Qae ?_
 refine hK8 _ _ ?_
 refine Qat (t:=decide (((2*k:Nat):Int)<((ts.length:Nat):Int))) kj (fun c9=>?_) (fun c9=>?_)
 ·skip
  have h15:2*k<ts.length:=by have:=of_decide_eq_true c9; omega
  refine wp_skip ?_
  refine hK7 _ _ ?_
  refine wp_seq_k fun K10 hK10=>?_
  refine wp_block ?_
  refine wp_seq_k fun K11 hK11=>?_
  refine Qab ?_
  refine Qaa (.slice a_t ts.length c_t) 18 rfl kj kj ?_
  refine Qaa (.int .i64 ((2*k:Nat):Int)) 19 rfl kj kj ?_
  obtain ⟨gtT,otT,hat,hnts⟩:=TrAt.ext ht xx1
  have hnt:=hnts (2*k) (by omega)
  obtain ⟨nt,ent⟩:∃ z,z=ndi ts (2*k):=⟨_,rfl⟩
  rw [←ent] at hnt
  have okt:=hnt.ok
  have rdt:=hnt.rd
  refine Qaa (.pointer (some ⟨gtT,otT+(2*k)*99,none⟩)) 20 rfl kj (Qao 23 _ _ .i64 (2*k) gtT otT ts.length c_t 41 99 a_t (hat (by omega)) rfl kj kj kj kj (by omega)) ?_
  refine Qaa (.pointer (some ⟨gtT,otT+(2*k)*99,none⟩)) 21 rfl kj kj ?_
  refine Qaa (.bool nt.n.us) 22 rfl kj (Qaj 4 _ _ (.bool nt.n.us) (NdAt.at3 hnt).1 rfl kj kj) ?_
  refine Qae ?_
  refine hK11 _ _ ?_
  refine Qat (t:=nt.n.us) kj (fun c12=>?_) (fun c12=>?_)
  ·skip
   have hcn:(ndi ts (2*k)).n.us=true:=ent▸c12
   have hul:=Qbu ts k
   refine Qab ?_
   refine Qaa (.int .i64 (((QaD ts k).length:Nat):Int)) 23 rfl kj kj ?_
   refine Qaa (.int .i64 ((((QaD ts k).length+1:Nat):Int))) 24 rfl kj (Qai (u:=.int .i64 (IntKind.i64.wrap ((((QaD ts k).length:Nat):Int)+1))) kj (congrArg (Value.int .i64) (i64n _ _ (by omega) (by omega)))) ?_
   refine Qaa (.int .i64 ((((QaD ts k).length+1:Nat):Int))) 6 rfl kj kj ?_
   refine Qae ?_
   refine hK10 _ _ ?_
   refine Qab ?_
   refine Qaa (.int .i64 ((2*k:Nat):Int)) 16 rfl kj kj ?_
   refine Qaa (.int .i64 (((2*(k+1):Nat):Int))) 17 rfl kj (Qai (u:=.int .i64 (IntKind.i64.wrap (((2*k:Nat):Int)+2))) kj (congrArg (Value.int .i64) ((IntWalk.i64_in _ (by omega)).trans (by omega)))) ?_
   refine Qaa (.int .i64 (((2*(k+1):Nat):Int))) 7 rfl kj kj ?_
   refine Qae ?_
   have hul2:(QaD ts (k+1)).length=(QaD ts k).length+1:=by rw [QbX hcn]; simp
   rw [←hul2]
   repeat (first | with_reducible refine goX1 ?_ | with_reducible refine goX2 ?_ | with_reducible refine goX3 ?_)
   exact Qas (k+1) ⟨rfl,rfl,rfl,rfl,trivial⟩ ⟨(by omega),e2,xx1⟩ (by show L+1-(k+1)<L+1-k; omega)
  ·skip
   have hcn:(ndi ts (2*k)).n.us=false:=ent▸c12
   have hul:=Qbu ts k
   refine wp_skip ?_
   refine hK10 _ _ ?_
   refine Qab ?_
   refine Qaa (.int .i64 ((2*k:Nat):Int)) 16 rfl kj kj ?_
   refine Qaa (.int .i64 (((2*(k+1):Nat):Int))) 17 rfl kj (Qai (u:=.int .i64 (IntKind.i64.wrap (((2*k:Nat):Int)+2))) kj (congrArg (Value.int .i64) ((IntWalk.i64_in _ (by omega)).trans (by omega)))) ?_
   refine Qaa (.int .i64 (((2*(k+1):Nat):Int))) 7 rfl kj kj ?_
   refine Qae ?_
   have hul2:(QaD ts (k+1)).length=(QaD ts k).length:=by rw [Qco hcn]
   rw [←hul2]
   repeat (first | with_reducible refine goX1 ?_ | with_reducible refine goX2 ?_ | with_reducible refine goX3 ?_)
   exact Qas (k+1) ⟨rfl,rfl,rfl,rfl,trivial⟩ ⟨(by omega),e2,xx1⟩ (by show L+1-(k+1)<L+1-k; omega)
 ·skip
  have hkL:k=L:=by have:=of_decide_eq_false c9; omega
  refine wp_exit ?_
  refine hK5 _ _ ?_
  refine wp_seq_k fun K13 hK13=>?_
  refine wp_seq_k fun K14 hK14=>?_
  refine Qab ?_
  refine Qaa (.slice a_t ts.length c_t) 25 rfl kj kj ?_
  refine Qaa (.int .i64 ((m:Nat):Int)) 26 rfl kj kj ?_
  refine Qal (.bool true) 57 #[.slice a_t ts.length c_t,.int .i64 ((m:Nat):Int)] 27 rfl kj kj ((hus▸QkS ts a_t c_t _ _ (TrAt.ext ht xx1) htl m (by omega) (by omega))) fun W3 e3=>?_
  have x3:Ext w W3:=Ext.tr xx1 e3
  refine Qaa (.bool false) 28 rfl kj kj ?_
  refine Qaa (.bool false) 29 rfl kj kj ?_
  refine Qaa (.int .i64 (((QaD ts k).length:Nat):Int)) 30 rfl kj kj ?_
  refine Qaa (.bool true) 31 rfl kj (Qai (u:=.bool (((((QaD ts k).length:Nat):Int)==1))) kj (congrArg Value.bool (by rw [hkL]; exact hal))) ?_
  refine Qaa (.bool true) 32 rfl kj kj ?_
  refine Qae ?_
  refine hK14 _ _ ?_
  refine cond_true kj ?_
  refine wp_seq_k fun K15 hK15=>?_
  refine Qab ?_
  refine Qaa (.slice none 0 0) 4 rfl kj kj ?_
  refine Qaa (.int .i64 9) 5 rfl kj kj ?_
  refine Qae ?_
  refine hK15 _ _ ?_
  refine wp_ret ?_
  repeat (first | with_reducible refine goR1 ?_ | with_reducible refine goR2 ?_)
  exact (show bodyPost _ _ _ .ret _ _ from ret2 (.slice none 0 0) (.int .i64 9) rfl (Qam kj) (Qam kj) ⟨rfl,x3⟩)
set_option maxRecDepth 100000 in
theorem Qh1 (ts : List NdV) (a_t:Option Addr) (c_t B1:Nat) (w:World) (ht:TrAt B1 w a_t ts) (htl:ts.length≤100000) (hmt:∀ i,i<ts.length→(ndi ts i).n.ms.length≤1000) (hc:chkT ts=true) (L:Nat) (hL:leaves ((ts.length:Nat):Int)=((L:Nat):Int)) (hL3:L≤32) (hlen:ts.length+1=2*L) (hTr:Qax ((L:Nat):Int)=true) (m:Nat) (hm:m<L) (hus:(ndi ts (2*m)).n.us=true) (hal:((((QaD ts L).length:Nat):Int)==1)=false):Calls Tryd.prog 30 #[.slice a_t ts.length c_t,.int .i64 ((m:Nat):Int)] w (QbH w (fun v W=>∃ us rs,AsC us ts∧rs=remT us m L∧∃ u,v=.tuple #[u,.int .i64 0]∧FrT w.heap.size rs u W)):=by
 refine enter 50 [(0,.slice a_t ts.length c_t),(1,.int .i64 ((m:Nat):Int))] Tryd.func30 rfl rfl kj rfl ?_
 refine wp_seq_k fun K1 hK1=>?_
 refine Qab ?_
 refine Qaa (.slice none 0 0) 4 rfl kj kj ?_
 refine Qaa (.int .i64 0) 5 rfl kj kj ?_
 refine Qae ?_
 refine hK1 _ _ ?_
 refine wp_seq_k fun K2 hK2=>?_
 refine wp_seq_k fun K3 hK3=>?_
 refine Qab ?_
 refine Qaa (.slice a_t ts.length c_t) 9 rfl kj kj ?_
 refine Qal (.bool true) 12 #[.slice a_t ts.length c_t] 10 rfl kj kj (Qeo ts a_t c_t _ _ (TrAt.ext ht (Rely.Ext.refl w)) htl (fun i hi=>qT (hmt i hi) (by decide)) true hc) fun W1 e1=>?_
 have x1:Ext w W1:=Ext.tr (Rely.Ext.refl w) e1
 refine Qaa (.bool false) 11 rfl kj kj ?_
 refine Qae ?_
 refine hK3 _ _ ?_
 refine cond_false kj ?_
 refine wp_skip ?_
 refine hK2 _ _ ?_
 refine wp_seq_k fun K4 hK4=>?_
 refine Qab ?_
 refine Qaa (.int .i64 0) 6 rfl kj kj ?_
 refine Qae ?_
 refine hK4 _ _ ?_
 refine wp_seq_k fun K5 hK5=>?_
 refine wp_seq_k fun K6 hK6=>?_
 refine Qab ?_
 refine Qaa (.int .i64 0) 7 rfl kj kj ?_
 refine Qae ?_
 refine hK6 _ _ ?_
 refine wp_block ?_
 refine Qaz (fun (s1:Nat)=>[(0,.slice a_t ts.length c_t),(1,.int .i64 ((m:Nat):Int)),(6,.int .i64 (((QaD ts s1).length:Nat):Int)),(7,.int .i64 ((2*s1:Nat):Int))]) (fun (s1:Nat) W=>(s1≤L)∧(Ext W1 W)∧(Ext w W)) (fun (s1:Nat)=>L+1-s1) 0 ⟨rfl,rfl,rfl,rfl,trivial⟩ ⟨(Nat.zero_le _),(Rely.Ext.refl W1),x1⟩ fun s1 X1 V1 hI1=>?_
 obtain ⟨k,hs1⟩:∃ z,z=s1:=⟨_,rfl⟩
 subst hs1
 obtain ⟨hkl,kk1,xx1⟩:=hI1
 replace hkl:k≤L:=hkl
 replace kk1:Ext W1 V1:=kk1
 replace xx1:Ext w V1:=xx1
 have e2:=kk1
 refine wp_seq_k fun K7 hK7=>?_
 refine wp_seq_k fun K8 hK8=>?_
 refine Qab ?_
 refine Qaa (.int .i64 ((2*k:Nat):Int)) 12 rfl kj kj ?_
 refine Qaa (.slice a_t ts.length c_t) 13 rfl kj kj ?_
 refine Qaa (.int .i64 ((ts.length:Nat):Int)) 14 rfl kj kj ?_
 refine Qaa (.bool (decide (((2*k:Nat):Int)<((ts.length:Nat):Int)))) 15 rfl kj kj ?_
 refine Qae ?_
 refine hK8 _ _ ?_
 refine Qat (t:=decide (((2*k:Nat):Int)<((ts.length:Nat):Int))) kj (fun c9=>?_) (fun c9=>?_)
 ·skip
  have h15:2*k<ts.length:=by have:=of_decide_eq_true c9; omega
  refine wp_skip ?_
  refine hK7 _ _ ?_
  refine wp_seq_k fun K10 hK10=>?_
  refine wp_block ?_
  refine wp_seq_k fun K11 hK11=>?_
  refine Qab ?_
  refine Qaa (.slice a_t ts.length c_t) 18 rfl kj kj ?_
  refine Qaa (.int .i64 ((2*k:Nat):Int)) 19 rfl kj kj ?_
  obtain ⟨gtT,otT,hat,hnts⟩:=TrAt.ext ht xx1
  have hnt:=hnts (2*k) (by omega)
  obtain ⟨nt,ent⟩:∃ z,z=ndi ts (2*k):=⟨_,rfl⟩
  rw [←ent] at hnt
  have okt:=hnt.ok
  have rdt:=hnt.rd
  refine Qaa (.pointer (some ⟨gtT,otT+(2*k)*99,none⟩)) 20 rfl kj (Qao 23 _ _ .i64 (2*k) gtT otT ts.length c_t 41 99 a_t (hat (by omega)) rfl kj kj kj kj (by omega)) ?_
  refine Qaa (.pointer (some ⟨gtT,otT+(2*k)*99,none⟩)) 21 rfl kj kj ?_
  refine Qaa (.bool nt.n.us) 22 rfl kj (Qaj 4 _ _ (.bool nt.n.us) (NdAt.at3 hnt).1 rfl kj kj) ?_
  refine Qae ?_
  refine hK11 _ _ ?_
  refine Qat (t:=nt.n.us) kj (fun c12=>?_) (fun c12=>?_)
  ·skip
   have hcn:(ndi ts (2*k)).n.us=true:=ent▸c12
   have hul:=Qbu ts k
   refine Qab ?_
   refine Qaa (.int .i64 (((QaD ts k).length:Nat):Int)) 23 rfl kj kj ?_
   refine Qaa (.int .i64 ((((QaD ts k).length+1:Nat):Int))) 24 rfl kj (Qai (u:=.int .i64 (IntKind.i64.wrap ((((QaD ts k).length:Nat):Int)+1))) kj (congrArg (Value.int .i64) (i64n _ _ (by omega) (by omega)))) ?_
   refine Qaa (.int .i64 ((((QaD ts k).length+1:Nat):Int))) 6 rfl kj kj ?_
   refine Qae ?_
   refine hK10 _ _ ?_
   refine Qab ?_
   refine Qaa (.int .i64 ((2*k:Nat):Int)) 16 rfl kj kj ?_
   refine Qaa (.int .i64 (((2*(k+1):Nat):Int))) 17 rfl kj (Qai (u:=.int .i64 (IntKind.i64.wrap (((2*k:Nat):Int)+2))) kj (congrArg (Value.int .i64) ((IntWalk.i64_in _ (by omega)).trans (by omega)))) ?_
   refine Qaa (.int .i64 (((2*(k+1):Nat):Int))) 7 rfl kj kj ?_
   refine Qae ?_
   have hul2:(QaD ts (k+1)).length=(QaD ts k).length+1:=by rw [QbX hcn]; simp
   rw [←hul2]
   repeat (first | with_reducible refine goX1 ?_ | with_reducible refine goX2 ?_ | with_reducible refine goX3 ?_)
   exact Qas (k+1) ⟨rfl,rfl,rfl,rfl,trivial⟩ ⟨(by omega),e2,xx1⟩ (by show L+1-(k+1)<L+1-k; omega)
  ·skip
   have hcn:(ndi ts (2*k)).n.us=false:=ent▸c12
   have hul:=Qbu ts k
   refine wp_skip ?_
   refine hK10 _ _ ?_
   refine Qab ?_
   refine Qaa (.int .i64 ((2*k:Nat):Int)) 16 rfl kj kj ?_
   refine Qaa (.int .i64 (((2*(k+1):Nat):Int))) 17 rfl kj (Qai (u:=.int .i64 (IntKind.i64.wrap (((2*k:Nat):Int)+2))) kj (congrArg (Value.int .i64) ((IntWalk.i64_in _ (by omega)).trans (by omega)))) ?_
   refine Qaa (.int .i64 (((2*(k+1):Nat):Int))) 7 rfl kj kj ?_
   refine Qae ?_
   have hul2:(QaD ts (k+1)).length=(QaD ts k).length:=by rw [Qco hcn]
   rw [←hul2]
   repeat (first | with_reducible refine goX1 ?_ | with_reducible refine goX2 ?_ | with_reducible refine goX3 ?_)
   exact Qas (k+1) ⟨rfl,rfl,rfl,rfl,trivial⟩ ⟨(by omega),e2,xx1⟩ (by show L+1-(k+1)<L+1-k; omega)
 ·skip
  have hkL:k=L:=by have:=of_decide_eq_false c9; omega
  refine wp_exit ?_
  refine hK5 _ _ ?_
  refine wp_seq_k fun K13 hK13=>?_
  refine wp_seq_k fun K14 hK14=>?_
  refine Qab ?_
  refine Qaa (.slice a_t ts.length c_t) 25 rfl kj kj ?_
  refine Qaa (.int .i64 ((m:Nat):Int)) 26 rfl kj kj ?_
  refine Qal (.bool true) 57 #[.slice a_t ts.length c_t,.int .i64 ((m:Nat):Int)] 27 rfl kj kj ((hus▸QkS ts a_t c_t _ _ (TrAt.ext ht xx1) htl m (by omega) (by omega))) fun W3 e3=>?_
  have x3:Ext w W3:=Ext.tr xx1 e3
  refine Qaa (.bool false) 28 rfl kj kj ?_
  refine Qaa (.bool false) 29 rfl kj kj ?_
  refine Qaa (.int .i64 (((QaD ts k).length:Nat):Int)) 30 rfl kj kj ?_
  refine Qaa (.bool false) 31 rfl kj (Qai (u:=.bool (((((QaD ts k).length:Nat):Int)==1))) kj (congrArg Value.bool (by rw [hkL]; exact hal))) ?_
  refine Qaa (.bool false) 32 rfl kj kj ?_
  refine Qae ?_
  refine hK14 _ _ ?_
  refine cond_false kj ?_
  refine wp_skip ?_
  refine hK13 _ _ ?_
  refine wp_seq_k fun K15 hK15=>?_
  refine Qab ?_
  refine Qaa (.slice a_t ts.length c_t) 33 rfl kj kj ?_
  refine Qaa (.int .i64 ((m:Nat):Int)) 34 rfl kj kj ?_
  refine Qaa (.agg (cat [#[.bool false],#[.int .i64 0],ints .u8 (List.replicate 32 0),ints .u8 (List.replicate 32 0),ints .u8 (List.replicate 32 0),#[.slice none 0 0]])) 35 rfl kj kj ?_
  refine Qa7 (fun v W'=>(fun v W9=>∃ us,AsC us ts∧FrT W3.heap.size (blkT (us.set (2*m) zn) (2*((m:Nat):Int)) ((L:Nat):Int)) v W9∧(blkT (us.set (2*m) zn) (2*((m:Nat):Int)) ((L:Nat):Int)).length=ts.length∧∃ a c,v=.slice a ts.length c∧ts.length≤c) v W'∧Ext W3 W') 58 #[.slice a_t ts.length c_t,.int .i64 ((m:Nat):Int),.agg (cat [#[.bool false],#[.int .i64 0],ints .u8 (List.replicate 32 0),ints .u8 (List.replicate 32 0),ints .u8 (List.replicate 32 0),#[.slice none 0 0]])] 36 rfl kj kj ((Qkq ts a_t _ _ _ (TrAt.ext ht x3) htl hmt L hL hL3 hlen hTr m hm zn Qdj rfl 0 (QcW 0 _)).mono (by rintro e w' ⟨v,rfl,e1,hv⟩; exact ⟨v,rfl,hv,e1⟩)) fun vv16 W4 hh16=>?_
  obtain ⟨hv16,e4⟩:=hh16
  have x4:Ext w W4:=Ext.tr x3 e4
  obtain ⟨us,has,hfr,hfl,aB,cB,hvB,hcB⟩:=hv16
  subst hvB
  obtain ⟨aB2,cB2,hvB,htB,havB,hmB⟩:=hfr
  simp only [Value.slice.injEq] at hvB
  obtain ⟨rfl,-,rfl⟩:=hvB
  refine Qaa (.slice aB ts.length cB) 8 rfl kj kj ?_
  refine Qae ?_
  refine hK15 _ _ ?_
  refine wp_seq_k fun K17 hK17=>?_
  refine wp_block ?_
  have han3:anyU (blkT (us.set (2*m) zn) (2*((m:Nat):Int)) ((L:Nat):Int)) 0=true:=Qh8 has hlen hTr hm hus hal
  have hms3:∀ i,i<ts.length→(ndi (blkT (us.set (2*m) zn) (2*((m:Nat):Int)) ((L:Nat):Int)) i).n.ms.length≤1000:=fun i hi=>hmB i (by omega)
  refine Qaz (fun (s2:Nat×Nat×Nat×List NdV)=>[(8,.slice aB s2.2.1 cB)]) (fun (s2:Nat×Nat×Nat×List NdV) W=>(s2.2.2.2.length=s2.2.1)∧(s2.2.1+1=2*s2.2.2.1)∧(Qax ((s2.2.2.1:Nat):Int)=true)∧(s2.2.1≤s2.1)∧(cutT ts.length (blkT (us.set (2*m) zn) (2*((m:Nat):Int)) ((L:Nat):Int))=cutT s2.1 s2.2.2.2)∧(anyU s2.2.2.2 0=true)∧(TrAt W.heap.size W aB s2.2.2.2)∧(AvT (fun g=>W3.heap.size≤g) aB s2.2.2.2)∧(∀ i,i<s2.2.1→(ndi s2.2.2.2 i).n.ms.length≤1000)∧(s2.2.1≤100000)∧(s2.2.1≤cB)∧(Ext W4 W)∧(Ext w W)) (fun (s2:Nat×Nat×Nat×List NdV)=>s2.2.1) (ts.length,ts.length,L,(blkT (us.set (2*m) zn) (2*((m:Nat):Int)) ((L:Nat):Int))) ⟨rfl,trivial⟩ ⟨hfl,hlen,hTr,(qR _),rfl,han3,(TrAt.here (TrAt.ext htB (Rely.Ext.refl W4))),havB,hms3,htl,hcB,(Rely.Ext.refl W4),x4⟩ fun s2 X2 V2 hI2=>?_
  obtain ⟨fu,nq,Lc,cu⟩:=s2
  obtain ⟨hcn,hcl,hcT,hfu,hcut,han,htc,hav,hms,hnl,hnc,kk2,xx2⟩:=hI2
  replace hcn:cu.length=nq:=hcn
  replace hcl:nq+1=2*Lc:=hcl
  replace hcT:Qax ((Lc:Nat):Int)=true:=hcT
  replace hfu:nq≤fu:=hfu
  replace hcut:cutT ts.length (blkT (us.set (2*m) zn) (2*((m:Nat):Int)) ((L:Nat):Int))=cutT fu cu:=hcut
  replace han:anyU cu 0=true:=han
  replace htc:TrAt V2.heap.size V2 aB cu:=htc
  replace hav:AvT (fun g=>W3.heap.size≤g) aB cu:=hav
  replace hms:∀ i,i<nq→(ndi cu i).n.ms.length≤1000:=hms
  replace hnl:nq≤100000:=hnl
  replace hnc:nq≤cB:=hnc
  replace kk2:Ext W4 V2:=kk2
  replace xx2:Ext w V2:=xx2
  have e5:=kk2
  refine wp_seq_k fun K18 hK18=>?_
  refine wp_seq_k fun K19 hK19=>?_
  refine Qab ?_
  refine Qaa (.slice aB nq cB) 37 rfl kj kj ?_
  refine Qaa (.slice aB nq cB) 38 rfl kj kj ?_
  refine Qaa (.int .i64 ((nq:Nat):Int)) 39 rfl kj kj ?_
  refine Qal (.int .i64 ((Lc:Nat):Int)) 32 #[.int .i64 ((nq:Nat):Int)] 40 rfl kj kj (Qcr ((nq:Nat):Int) _ (QbE (by omega) (Qbh hcl hcT)) _) fun W6 e6=>?_
  have x6:Ext w W6:=Ext.tr xx2 e6
  refine Qaa (.int .i64 ((Lc/2:Nat):Int)) 41 rfl kj (Qai (u:=.int .i64 (IntKind.i64.wrap (Int.tdiv (((Lc:Nat):Int)) (2)))) kj (congrArg (Value.int .i64) (QcR _ 2 (by omega)))) ?_
  have y5_6:Ext V2 W6:=(Rely.Ext.trans (Rely.Ext.refl V2) e6)
  refine Qal (.bool (anyU cu (Lc/2))) 41 #[.slice aB nq cB,.int .i64 ((Lc/2:Nat):Int)] 42 rfl kj kj (Qlb cu _ _ _ _ (TrAt.ext htc y5_6) hcn (by omega) (Lc/2) (by omega)) fun W7 e7=>?_
  have x7:Ext w W7:=Ext.tr x6 e7
  refine Qaa (.bool (!(anyU cu (Lc/2)))) 43 rfl kj kj ?_
  refine Qae ?_
  refine hK19 _ _ ?_
  refine Qat (t:=!(anyU cu (Lc/2))) kj (fun c20=>?_) (fun c20=>?_)
  ·skip
   have hany:anyU cu (Lc/2)=false:=by simpa using c20
   have hLc1:Lc≠1:=fun e=>by rw [e] at hany; rw [show 1/2=0 from rfl,han] at hany; cases hany
   obtain ⟨hLe,hLh⟩:=Qfq hcT hLc1
   have hcl0:lvs cu=Lc:=Qbx (hcn▸Qbh hcl hcT)
   refine wp_skip ?_
   refine hK18 _ _ ?_
   refine wp_block ?_
   refine Qab ?_
   refine Qaa (.slice aB nq cB) 44 rfl kj kj ?_
   refine Qaa (.slice aB nq cB) 45 rfl kj kj ?_
   refine Qaa (.int .i64 ((nq:Nat):Int)) 46 rfl kj kj ?_
   refine Qaa (.int .i64 ((nq/2:Nat):Int)) 47 rfl kj (Qai (u:=.int .i64 (IntKind.i64.wrap (Int.tdiv (((nq:Nat):Int)) (2)))) kj (congrArg (Value.int .i64) (QcR _ 2 (by omega)))) ?_
   refine Qaa (.slice aB (nq/2) cB) 48 rfl kj (QgV (a:=aB) (len:=nq) (cap:=cB) 23 _ _ (nq/2) 41 rfl kj kj .i64 kj 99 kj (by omega)) ?_
   refine Qaa (.slice aB (nq/2) cB) 8 rfl kj kj ?_
   refine Qae ?_
   have y5_7:Ext V2 W7:=(Rely.Ext.trans y5_6 e7)
   have y4_6:Ext W4 W6:=(Rely.Ext.trans e5 e6)
   have y4_7:Ext W4 W7:=(Rely.Ext.trans y4_6 e7)
   repeat (first | with_reducible refine goX1 ?_ | with_reducible refine goX2 ?_ | with_reducible refine goX3 ?_)
   exact Qas ((fu-1),(nq/2),(Lc/2),(cu.take (nq/2))) ⟨rfl,trivial⟩ ⟨(by show (cu.take (nq/2)).length=nq/2; rw [List.length_take,hcn]; omega),(by show nq/2+1=2*(Lc/2); omega),hLh,(by show nq/2≤fu-1; omega),(hcut.trans (hcn▸Qdg hcl0 (by omega) hany)),(hcn▸Qdi (by omega) hLe han hany),((TrAt.here (TrAt.ext htc y5_7)).take _),(hav.take _),(fun i hi=>by have hi:i<nq/2:=hi; show (ndi (cu.take (nq/2)) i).n.ms.length≤1000; rw [Qb3 hi]; exact hms i (by omega)),(by show nq/2≤100000; omega),(by show nq/2≤cB; omega),y4_7,x7⟩ (by show nq/2<nq; omega)
  ·skip
   have hany:anyU cu (Lc/2)=true:=by simpa using c20
   refine wp_exit ?_
   refine hK17 _ _ ?_
   refine wp_seq_k fun K21 hK21=>?_
   refine Qab ?_
   refine Qaa (.slice aB nq cB) 49 rfl kj kj ?_
   refine Qaa (.slice aB nq cB) 4 rfl kj kj ?_
   refine Qaa (.int .i64 0) 5 rfl kj kj ?_
   refine Qae ?_
   refine hK21 _ _ ?_
   refine wp_ret ?_
   repeat (first | with_reducible refine goR1 ?_ | with_reducible refine goR2 ?_)
   have y5_7:Ext V2 W7:=(Rely.Ext.trans y5_6 e7)
   exact (show bodyPost _ _ _ .ret _ _ from ret2 (.slice aB nq cB) (.int .i64 0) rfl (Qam kj) (Qam kj) ⟨_,rfl,x7,us,cu,has,(by rw [remT,has.1,hcut,QdL (Qbx (hcn▸Qbh hcl hcT)) hany]),_,rfl,by subst hcn; exact ⟨_,_,rfl,(TrAt.here (TrAt.ext htc y5_7)),hav.mono (fun g h=>qT x3.size h),hms⟩⟩)
end Go.Proofs.YtcmaolmofgmkhaaDoor.Te
end
section
namespace Go.Proofs.YtcmaolmofgmkhaaDoor.Te
open Go Go.RowKit
open Rely Auto Own Seat Sha
theorem OwH.upd {base g c i M:Nat} {ts:List NdV} {n:NdV} {W W':World} {cur cur':Array Value} (hM:ts.length=M) (t:OwT base ts (.slice (some ⟨g,0,none⟩) M c) W) (hi:i<M) (r:W.heap[g]? = some (.cells cur 41)) (r':W'.heap[g]? = some (.cells cur' 41)) (hs:cur'.size=cur.size)
    (hc:∀ k j,j<99→k*99+j<cur.size→cur'[k*99+j]? = if k=i then (cat (ndP n))[j]? else cur[k*99+j]?) (ok:NdOk n.n) (hn:NdIn base W' n) (hk:∀ k,k<M→k≠i→NdIn base W' (ndi ts k)) (hob:ob n=ob (ndi ts i)):OwT base (ts.set i n) (.slice (some ⟨g,0,none⟩) M c) W':=by
  subst hM
  obtain ⟨g',c2,cur2,e,q2,q3,q4,q5,q6,q7⟩:=t.opens (by omega)
  simp only [Value.slice.injEq,Option.some.injEq,Addr.mk.injEq] at e
  obtain ⟨⟨rfl,-⟩,-,rfl⟩:=e
  rw [r] at q3
  simp only [Option.some.injEq,Obj.cells.injEq,and_true] at q3
  subst q3
  have:=OwH.made (h:=none) (ts:=ts.set i n) (c:=c) q2 r' (by rw [hs]; exact q4) (by rw [List.length_set]; exact q5) q6 (fun k hk2 j hj=>by
    rw [List.length_set] at hk2
    rw [QaC n hi,hc k j hj (by omega)]
    by_cases e:k=i
    · rw [if_pos e,if_pos e]
    · rw [if_neg e,if_neg e,q7 k hk2 j hj]) (fun k hk2=>by
    rw [List.length_set] at hk2
    rw [QaC n hi]
    by_cases e:k=i
    · rw [if_pos e]; exact ok
    · rw [if_neg e]; exact t.ok k hk2) (fun k hk2 _=>by
    rw [List.length_set] at hk2
    rw [QaC n hi]
    by_cases e:k=i
    · rw [if_pos e]; exact hn
    · rw [if_neg e]; exact hk k hk2 e) (QeF hi t.ap (fun _ _ q=>q) fun _ j hj hji _ g h1 h2=>t.ap i j hi hj (fun e=>hji e.symm) (by simp) (by simp) g (hob▸h1) h2)
  rwa [List.length_set] at this
section
variable {ds : List Deferred} {P : Program} {ops : Array Oper} {Q : Exit → Act → World → Prop} {rest : List Oper} {o : Oper} {N : Nat} {L : Env} {W : World}
end
theorem OwH.list {base g c i M:Nat} {ts:List NdV} {W:World} (hM:ts.length=M) (t:OwT base ts (.slice (some ⟨g,0,none⟩) M c) W) (hi:i<M) (h0:0<(ndi ts i).n.ms.length):∃ b,(ndi ts i).a=some ⟨b,0,none⟩∧base≤b∧b<W.heap.size∧∀ j,j<(ndi ts i).n.ms.length→W.cell? ⟨b,0+j,none⟩=some (.int .i64 (nth (ndi ts i).n.ms j)):=by
  obtain ⟨b,cc,cu,e1,e2,e3,e4,e5,e6,e7⟩:=Qf2 (t.nd i (by omega) (by simp)).2.2 h0
  unfold slv at e1
  simp only [Value.slice.injEq] at e1
  exact ⟨b,e1.1,e2,QaB e3,fun j hj=>by rw [Nat.zero_add,QbU e3]; exact Qec e7 hj⟩
end Go.Proofs.YtcmaolmofgmkhaaDoor.Te
end
section
namespace Go.Proofs.YtcmaolmofgmkhaaDoor.Te
open Go Go.RowKit
open Rely Auto Own Seat Sha
def MemR (ts : List NdV) (w:World) (v:Value) (W:World):Prop:=∃ (cs:List NdV) (g1:Nat) (a:Option Addr) (c:Nat),AsC cs ts∧v=.func (.func 66) #[] #[.pointer (some ⟨g1,0,none⟩)]∧w.heap.size≤g1∧W.heap[g1]? = some (.cells #[.slice a cs.length c] 23)∧OwT w.heap.size cs (.slice a cs.length c) W
set_option maxRecDepth 100000 in
theorem Qf8 (ts : List NdV) (a_t:Option Addr) (c_t B1:Nat) (w:World) (ht:TrAt B1 w a_t ts) (htl:ts.length≤100000) (hmt:∀ i,i<ts.length→(ndi ts i).n.ms.length≤1000) (hT:TabAt w) (h:chkT ts=true):Calls Tryd.prog 19 #[.slice a_t ts.length c_t] w (QbH w (MemR ts w)):=by
  refine enter 9 [(0,.slice a_t ts.length c_t)] Tryd.func19 rfl rfl kj rfl ?_
  refine wp_seq_k fun K1 hK1=>?_
  refine Qab ?_
  refine Qaa (.nilFunc) 2 rfl kj kj ?_
  refine Qae ?_
  refine hK1 _ _ ?_
  refine wp_seq_k fun K2 hK2=>?_
  refine wp_seq_k fun K3 hK3=>?_
  refine Qab ?_
  refine Qaa (.slice a_t ts.length c_t) 3 rfl kj kj ?_
  refine Qal (.nilIface) 11 #[.slice a_t ts.length c_t] 4 rfl kj kj (Qca ts a_t c_t _ _ (TrAt.ext ht (Rely.Ext.refl w)) htl (fun i hi=>qT (hmt i hi) (by decide)) (TabAt.ext hT (Rely.Ext.refl w)) h) fun W1 e1=>?_
  have x1:Ext w W1:=Ext.tr (Rely.Ext.refl w) e1
  refine Qaa (.bool false) 5 rfl kj kj ?_
  refine Qae ?_
  refine hK3 _ _ ?_
  refine cond_false kj ?_
  refine wp_skip ?_
  refine hK2 _ _ ?_
  refine wp_seq_k fun K4 hK4=>?_
  refine Qab ?_
  refine Qaa (.slice a_t ts.length c_t) 6 rfl kj kj ?_
  refine Qa7 (fun v W'=>(fun v W=>∃ us,AsC us ts∧OwT W1.heap.size us v W∧∃ g,v=.slice (some ⟨g,0,none⟩) ts.length ts.length) v W'∧Ext W1 W') 16 #[.slice a_t ts.length c_t] 7 rfl kj kj ((Qjl ts a_t _ _ _ (TrAt.ext ht x1) htl hmt).mono (by rintro e w' ⟨v,rfl,e1,hv⟩; exact ⟨v,rfl,hv,e1⟩)) fun vv5 W2 hh5=>?_
  obtain ⟨hv5,e2⟩:=hh5
  have x2:Ext w W2:=Ext.tr x1 e2
  obtain ⟨cs,hasC,hOC,gC,rfl⟩:=hv5
  obtain ⟨lgC,cuC,rOC⟩:=hOC.rowBlock (g:=gC) rfl
  obtain ⟨aC,haC⟩:∃ z,z=some (⟨gC,0,none⟩:Addr):=⟨_,rfl⟩
  obtain ⟨cC,hcC⟩:∃ z,z=ts.length:=⟨_,rfl⟩
  have hvC:(Value.slice (some ⟨gC,0,none⟩) ts.length ts.length)=.slice aC cs.length cC:=by rw [hasC.1,haC,hcC]
  rw [hvC] at hOC ⊢
  have htC:=hOC.tr
  refine Qa7 (fun v W'=>(fun v W=>∃ g1,v=.func (.func 66) #[] #[.pointer (some ⟨g1,0,none⟩)]∧W2.heap.size≤g1∧W.heap[g1]? = some (.cells #[.slice aC cs.length cC] 23)) v W'∧Ext W2 W') 47 #[.slice aC cs.length cC] 8 rfl kj kj ((QeW cs aC cC _).mono (by rintro e w' ⟨v,rfl,e1,hv⟩; exact ⟨v,rfl,hv,e1⟩)) fun vv6 W3 hh6=>?_
  obtain ⟨hv6,e3⟩:=hh6
  have x3:Ext w W3:=Ext.tr x2 e3
  obtain ⟨gm1,rfl,lm1,rm1⟩:=hv6
  refine Qaa (.func (.func 66) #[] #[.pointer (some ⟨gm1,0,none⟩)]) 2 rfl kj kj ?_
  refine Qae ?_
  refine hK4 _ _ ?_
  refine wp_ret ?_
  repeat (first | with_reducible refine goR1 ?_ | with_reducible refine goR2 ?_)
  exact (show bodyPost _ _ _ .ret _ _ from ret1 (.func (.func 66) #[] #[.pointer (some ⟨gm1,0,none⟩)]) rfl (Qam kj) ⟨_,rfl,x3,cs,gm1,aC,cC,hasC,rfl,qT x2.size lm1,rm1,OwH.low (OwH.ext hOC e3) x1.size⟩)
end Go.Proofs.YtcmaolmofgmkhaaDoor.Te
end
section
namespace Go.Proofs.YtcmaolmofgmkhaaDoor.Te
open Go Go.RowKit
open Rely Auto Own Seat Sha
section
variable {ds : List Deferred} {P : Program} {ops : Array Oper} {Q : Exit → Act → World → Prop} {rest : List Oper} {o : Oper} {N : Nat} {L : Env} {W : World}
end
def wl (l : List Nat):List Int:=l.map fun z=>((z:Nat):Int)
theorem Qgh (l : List Nat):(wl l).length=l.length:=List.length_map ..
theorem Qgi (l : List Nat) (k:Nat):wl (l++[k])=wl l++[((k:Nat):Int)]:=by unfold wl; rw [List.map_append]; rfl
theorem Qel {gs : List Nat} {V A B:World} {row:Option Nat} (h:QaI gs V A) (hg:A.grownBy B row) (hr:∀ r,row=some r→∃ o:Obj,A.heap[r]? = some o∧o.isCells=false):QaI gs V B :=
  ⟨qT h.1 hg.size,fun k cs t fr q n=>by
    have h2:=h.2 k cs t fr q n
    rw [hg.block k (Array.getElem?_eq_some_iff.1 h2).1 (fun e=>by
      obtain ⟨o,h3,h4⟩:=hr k e.symm
      rw [h2] at h3
      cases h3
      cases h4)]
    exact h2⟩
end Go.Proofs.YtcmaolmofgmkhaaDoor.Te
end
section
namespace Go.Proofs.YtcmaolmofgmkhaaDoor.Te
open Go Go.RowKit
open Rely Auto Own Seat Sha
theorem Qjz : ∀ {a b:List Int},a.Pairwise (· < ·)→b.Pairwise (· < ·)→(∀ x,x∈a↔x∈b)→a=b
  | [],[],_,_,_=>rfl
  | [],y::b,_,_,h=>absurd ((h y).2 List.mem_cons_self) List.not_mem_nil
  | x::a,[],_,_,h=>absurd ((h x).1 List.mem_cons_self) List.not_mem_nil
  | x::a,y::b,ha,hb,h=>by
    rw [List.pairwise_cons] at ha hb
    have e:x=y:=by
      rcases List.mem_cons.1 ((h x).1 List.mem_cons_self) with e | e
      · exact e
      · rcases List.mem_cons.1 ((h y).2 List.mem_cons_self) with q | q
        · exact q.symm
        · have:=ha.1 y q
          have:=hb.1 x e
          omega
    subst e
    rw [Qjz ha.2 hb.2 fun z=>⟨fun hz=>?_,fun hz=>?_⟩]
    · rcases List.mem_cons.1 ((h z).1 (List.mem_cons_of_mem _ hz)) with q | q
      · have:=ha.1 z hz; omega
      · exact q
    · rcases List.mem_cons.1 ((h z).2 (List.mem_cons_of_mem _ hz)) with q | q
      · have:=hb.1 z hz; omega
      · exact q
theorem QlM {l : List Nat} (h:l.Pairwise (· < ·)):(wl l).Pairwise (· < ·):=by
  unfold wl
  exact List.pairwise_map.2 (h.imp fun q=>by omega)
theorem Qly {l : List Nat} {x:Int}:x∈wl l↔∃ j∈l,((j:Nat):Int)=x:=by unfold wl; exact List.mem_map
def Qcb (ms : List Int) (m k:Nat):List Nat:=(List.range k).filter fun j=>decide (j=m) || decide (((j:Nat):Int)∈ms)
theorem QdH {ms : List Int} {m k:Nat} (h:k=m∨((k:Nat):Int)∈ms):Qcb ms m (k+1)=Qcb ms m k++[k]:=by
  unfold Qcb
  rw [List.range_succ,List.filter_append,List.filter_cons,if_pos (by rcases h with h | h <;> simp [h])]; rfl
theorem QhG {ms : List Int} {m k:Nat} (h:k≠m) (h2:((k:Nat):Int)∉ms):Qcb ms m (k+1)=Qcb ms m k:=by
  unfold Qcb
  rw [List.range_succ,List.filter_append,List.filter_cons,if_neg (by simp [h,h2])]; simp
theorem QdI (ms : List Int) (m k:Nat):(Qcb ms m k).length≤k:=qT (List.length_filter_le _ _) (by rw [List.length_range]; exact qR _)
theorem Qg4 {ms : List Int} {m:Nat} (h:ms.Pairwise (· < ·)) (hb:∀ j∈ms,0≤j∧j<32) (hm:m<32) (hn:((m:Nat):Int)∉ms):wl (Qcb ms m 32)=insA ms (posI ms ((m:Nat):Int)) ((m:Nat):Int):=by
  refine Qjz (QlM (List.Pairwise.filter _ List.pairwise_lt_range)) (QeA h hn) fun x=>?_
  rw [Qly,QeX]
  constructor
  · rintro ⟨j,hj,rfl⟩
    unfold Qcb at hj
    rw [List.mem_filter,Bool.or_eq_true,decide_eq_true_eq,decide_eq_true_eq] at hj
    rcases hj.2 with e | e
    · exact .inl (by rw [e])
    · exact .inr e
  · intro hx
    have h32:0≤x∧x<32:=by
      rcases hx with rfl | hx
      · omega
      · exact hb x hx
    refine ⟨x.toNat,?_,by omega⟩
    unfold Qcb
    rw [List.mem_filter,List.mem_range,Bool.or_eq_true,decide_eq_true_eq,decide_eq_true_eq]
    refine ⟨by omega,?_⟩
    rcases hx with rfl | hx
    · exact .inl (by omega)
    · exact .inr (by rw [show ((x.toNat:Nat):Int)=x by omega]; exact hx)
theorem Form.ms_lt {ts : List NdV} {L x:Nat} (f:Form ts L) (hx:x<ts.length) (ho:x%2=1) (hu:(ndi ts x).n.us=true):(ndi ts x).n.ms.Pairwise (· < ·)∧∀ j∈(ndi ts x).n.ms,0≤j∧j<32∧(ndi ts (2*j.toNat)).n.us=true:=by
  have u:=f.up x hx ho hu
  refine ⟨Qlt u.inc,fun j hj=>?_⟩
  obtain ⟨m,e,hm,-,uj,-⟩:=u.mem j hj
  have:=Qav f.tr
  exact ⟨by omega,by omega,by rw [e]; exact uj⟩
end Go.Proofs.YtcmaolmofgmkhaaDoor.Te
end
section
namespace Go.Proofs.YtcmaolmofgmkhaaDoor.Te
open Go Go.RowKit
open Rely Auto Own Seat Sha
set_option maxRecDepth 100000 in
theorem Qlq (ts : List NdV) (a_t:Option Addr) (c_t B1:Nat) (w:World) (ht:TrAt B1 w a_t ts) (htl:ts.length≤100000) (hmt:∀ i,i<ts.length→(ndi ts i).n.ms.length≤1000) (nd:NdV) (hok:NdOk nd.n) (B2:Nat) (hr:RdK .i64 B2 nd.n.ms (.slice nd.a nd.n.ms.length nd.c) w) (hc:chkT ts=false):Calls Tryd.prog 26 #[.slice a_t ts.length c_t,.agg (cat [#[.bool nd.n.us],#[.int .i64 nd.n.nm],ints .u8 (nd.n.key),ints .u8 (nd.n.sg),ints .u8 (nd.n.pa),#[.slice nd.a nd.n.ms.length nd.c]])] w (Ret w (.tuple #[.slice none 0 0,.int .i64 0,.int .i64 3])):=by
  refine enter 123 [(0,.slice a_t ts.length c_t),(1,.agg (cat [#[.bool nd.n.us],#[.int .i64 nd.n.nm],ints .u8 (nd.n.key),ints .u8 (nd.n.sg),ints .u8 (nd.n.pa),#[.slice nd.a nd.n.ms.length nd.c]]))] Tryd.func26 rfl rfl kj rfl ?_
  refine wp_seq_k fun K1 hK1=>?_
  refine Qab ?_
  refine Qap (cat [#[.bool nd.n.us],#[.int .i64 nd.n.nm],ints .u8 (nd.n.key),ints .u8 (nd.n.sg),ints .u8 (nd.n.pa),#[.slice nd.a nd.n.ms.length nd.c]]) 41 3 rfl kj kj fun g2 W1 l2 e1 r2_1=>?_
  have x1:Ext w W1:=Ext.tr (Rely.Ext.refl w) e1
  have b2:w.heap.size≤g2:=qT (Rely.Ext.refl w).size l2
  refine Qaa (.slice none 0 0) 4 rfl kj kj ?_
  refine Qaa (.int .i64 0) 5 rfl kj kj ?_
  refine Qaa (.int .i64 0) 6 rfl kj kj ?_
  refine Qae ?_
  refine hK1 _ _ ?_
  refine wp_seq_k fun K3 hK3=>?_
  refine wp_seq_k fun K4 hK4=>?_
  refine Qab ?_
  refine Qaa (.slice a_t ts.length c_t) 15 rfl kj kj ?_
  refine Qal (.bool false) 12 #[.slice a_t ts.length c_t] 16 rfl kj kj (Qeo ts a_t c_t _ _ (TrAt.ext ht x1) htl (fun i hi=>qT (hmt i hi) (by decide)) false hc) fun W2 e2=>?_
  have x2:Ext w W2:=Ext.tr x1 e2
  refine Qaa (.bool true) 17 rfl kj kj ?_
  refine Qaa (.bool true) 18 rfl kj kj ?_
  refine Qad 19 rfl kj ?_
  refine Qad 20 rfl kj ?_
  refine Qad 21 rfl kj ?_
  refine Qaa (.bool true) 22 rfl kj kj ?_
  refine Qae ?_
  refine hK4 _ _ ?_
  refine cond_true kj ?_
  refine wp_seq_k fun K5 hK5=>?_
  refine Qab ?_
  refine Qaa (.slice none 0 0) 4 rfl kj kj ?_
  refine Qaa (.int .i64 0) 5 rfl kj kj ?_
  refine Qaa (.int .i64 3) 6 rfl kj kj ?_
  refine Qae ?_
  refine hK5 _ _ ?_
  refine wp_ret ?_
  repeat (first | with_reducible refine goR1 ?_ | with_reducible refine goR2 ?_)
  exact (show bodyPost _ _ _ .ret _ _ from ret3 (.slice none 0 0) (.int .i64 0) (.int .i64 3) rfl (Qam kj) (Qam kj) (Qam kj) ⟨rfl,x2⟩)
set_option maxRecDepth 100000 in
theorem Qlo (ts : List NdV) (a_t:Option Addr) (c_t B1:Nat) (w:World) (ht:TrAt B1 w a_t ts) (htl:ts.length≤100000) (hmt:∀ i,i<ts.length→(ndi ts i).n.ms.length≤1000) (nd:NdV) (hok:NdOk nd.n) (B2:Nat) (hr:RdK .i64 B2 nd.n.ms (.slice nd.a nd.n.ms.length nd.c) w) (hc:chkT ts=true) (hs:QaO nd.n=false):Calls Tryd.prog 26 #[.slice a_t ts.length c_t,.agg (cat [#[.bool nd.n.us],#[.int .i64 nd.n.nm],ints .u8 (nd.n.key),ints .u8 (nd.n.sg),ints .u8 (nd.n.pa),#[.slice nd.a nd.n.ms.length nd.c]])] w (Ret w (.tuple #[.slice none 0 0,.int .i64 0,.int .i64 3])):=by
  refine enter 123 [(0,.slice a_t ts.length c_t),(1,.agg (cat [#[.bool nd.n.us],#[.int .i64 nd.n.nm],ints .u8 (nd.n.key),ints .u8 (nd.n.sg),ints .u8 (nd.n.pa),#[.slice nd.a nd.n.ms.length nd.c]]))] Tryd.func26 rfl rfl kj rfl ?_
  refine wp_seq_k fun K1 hK1=>?_
  refine Qab ?_
  refine Qap (cat [#[.bool nd.n.us],#[.int .i64 nd.n.nm],ints .u8 (nd.n.key),ints .u8 (nd.n.sg),ints .u8 (nd.n.pa),#[.slice nd.a nd.n.ms.length nd.c]]) 41 3 rfl kj kj fun g2 W1 l2 e1 r2_1=>?_
  have x1:Ext w W1:=Ext.tr (Rely.Ext.refl w) e1
  have b2:w.heap.size≤g2:=qT (Rely.Ext.refl w).size l2
  refine Qaa (.slice none 0 0) 4 rfl kj kj ?_
  refine Qaa (.int .i64 0) 5 rfl kj kj ?_
  refine Qaa (.int .i64 0) 6 rfl kj kj ?_
  refine Qae ?_
  refine hK1 _ _ ?_
  refine wp_seq_k fun K3 hK3=>?_
  refine wp_seq_k fun K4 hK4=>?_
  refine Qab ?_
  refine Qaa (.slice a_t ts.length c_t) 15 rfl kj kj ?_
  refine Qal (.bool true) 12 #[.slice a_t ts.length c_t] 16 rfl kj kj (Qeo ts a_t c_t _ _ (TrAt.ext ht x1) htl (fun i hi=>qT (hmt i hi) (by decide)) true hc) fun W2 e2=>?_
  have x2:Ext w W2:=Ext.tr x1 e2
  refine Qaa (.bool false) 17 rfl kj kj ?_
  refine Qaa (.bool false) 18 rfl kj kj ?_
  have r2_2:=(Qah r2_1 e2)
  refine Qaa (.agg (cat [#[.bool nd.n.us],#[.int .i64 nd.n.nm],ints .u8 (nd.n.key),ints .u8 (nd.n.sg),ints .u8 (nd.n.pa),#[.slice nd.a nd.n.ms.length nd.c]])) 19 rfl kj (Qa9 41 _ g2 41 _ _ r2_2 rfl kj kj (isz (n:=99) kj (by rw [Qac,Qac,Qac,Qac,Qac,Qac]; simp only [qS,cat,((Qaf _ _).trans hok.gl),((Qaf _ _).trans hok.kl),((Qaf _ _).trans hok.pl)]; rfl))) ?_
  refine Qal (.bool false) 43 #[.agg (cat [#[.bool nd.n.us],#[.int .i64 nd.n.nm],ints .u8 (nd.n.key),ints .u8 (nd.n.sg),ints .u8 (nd.n.pa),#[.slice nd.a nd.n.ms.length nd.c]])] 20 rfl kj kj ((hs▸Qe9 nd hok _)) fun W3 e3=>?_
  have x3:Ext w W3:=Ext.tr x2 e3
  refine Qaa (.bool true) 21 rfl kj kj ?_
  refine Qaa (.bool true) 22 rfl kj kj ?_
  refine Qae ?_
  refine hK4 _ _ ?_
  refine cond_true kj ?_
  refine wp_seq_k fun K5 hK5=>?_
  refine Qab ?_
  refine Qaa (.slice none 0 0) 4 rfl kj kj ?_
  refine Qaa (.int .i64 0) 5 rfl kj kj ?_
  refine Qaa (.int .i64 3) 6 rfl kj kj ?_
  refine Qae ?_
  refine hK5 _ _ ?_
  refine wp_ret ?_
  repeat (first | with_reducible refine goR1 ?_ | with_reducible refine goR2 ?_)
  exact (show bodyPost _ _ _ .ret _ _ from ret3 (.slice none 0 0) (.int .i64 0) (.int .i64 3) rfl (Qam kj) (Qam kj) (Qam kj) ⟨rfl,x3⟩)
set_option maxRecDepth 100000 in
theorem Qlp (ts : List NdV) (a_t:Option Addr) (c_t B1:Nat) (w:World) (ht:TrAt B1 w a_t ts) (htl:ts.length≤100000) (hmt:∀ i,i<ts.length→(ndi ts i).n.ms.length≤1000) (nd:NdV) (hok:NdOk nd.n) (B2:Nat) (hr:RdK .i64 B2 nd.n.ms (.slice nd.a nd.n.ms.length nd.c) w) (hc:chkT ts=true) (hs:QaO nd.n=true) (hf:0≤QaG ts nd.n.nm):Calls Tryd.prog 26 #[.slice a_t ts.length c_t,.agg (cat [#[.bool nd.n.us],#[.int .i64 nd.n.nm],ints .u8 (nd.n.key),ints .u8 (nd.n.sg),ints .u8 (nd.n.pa),#[.slice nd.a nd.n.ms.length nd.c]])] w (Ret w (.tuple #[.slice none 0 0,.int .i64 0,.int .i64 9])):=by
  refine enter 123 [(0,.slice a_t ts.length c_t),(1,.agg (cat [#[.bool nd.n.us],#[.int .i64 nd.n.nm],ints .u8 (nd.n.key),ints .u8 (nd.n.sg),ints .u8 (nd.n.pa),#[.slice nd.a nd.n.ms.length nd.c]]))] Tryd.func26 rfl rfl kj rfl ?_
  refine wp_seq_k fun K1 hK1=>?_
  refine Qab ?_
  refine Qap (cat [#[.bool nd.n.us],#[.int .i64 nd.n.nm],ints .u8 (nd.n.key),ints .u8 (nd.n.sg),ints .u8 (nd.n.pa),#[.slice nd.a nd.n.ms.length nd.c]]) 41 3 rfl kj kj fun g2 W1 l2 e1 r2_1=>?_
  have x1:Ext w W1:=Ext.tr (Rely.Ext.refl w) e1
  have b2:w.heap.size≤g2:=qT (Rely.Ext.refl w).size l2
  refine Qaa (.slice none 0 0) 4 rfl kj kj ?_
  refine Qaa (.int .i64 0) 5 rfl kj kj ?_
  refine Qaa (.int .i64 0) 6 rfl kj kj ?_
  refine Qae ?_
  refine hK1 _ _ ?_
  refine wp_seq_k fun K3 hK3=>?_
  refine wp_seq_k fun K4 hK4=>?_
  refine Qab ?_
  refine Qaa (.slice a_t ts.length c_t) 15 rfl kj kj ?_
  refine Qal (.bool true) 12 #[.slice a_t ts.length c_t] 16 rfl kj kj (Qeo ts a_t c_t _ _ (TrAt.ext ht x1) htl (fun i hi=>qT (hmt i hi) (by decide)) true hc) fun W2 e2=>?_
  have x2:Ext w W2:=Ext.tr x1 e2
  refine Qaa (.bool false) 17 rfl kj kj ?_
  refine Qaa (.bool false) 18 rfl kj kj ?_
  have r2_2:=(Qah r2_1 e2)
  refine Qaa (.agg (cat [#[.bool nd.n.us],#[.int .i64 nd.n.nm],ints .u8 (nd.n.key),ints .u8 (nd.n.sg),ints .u8 (nd.n.pa),#[.slice nd.a nd.n.ms.length nd.c]])) 19 rfl kj (Qa9 41 _ g2 41 _ _ r2_2 rfl kj kj (isz (n:=99) kj (by rw [Qac,Qac,Qac,Qac,Qac,Qac]; simp only [qS,cat,((Qaf _ _).trans hok.gl),((Qaf _ _).trans hok.kl),((Qaf _ _).trans hok.pl)]; rfl))) ?_
  refine Qal (.bool true) 43 #[.agg (cat [#[.bool nd.n.us],#[.int .i64 nd.n.nm],ints .u8 (nd.n.key),ints .u8 (nd.n.sg),ints .u8 (nd.n.pa),#[.slice nd.a nd.n.ms.length nd.c]])] 20 rfl kj kj ((hs▸Qe9 nd hok _)) fun W3 e3=>?_
  have x3:Ext w W3:=Ext.tr x2 e3
  refine Qaa (.bool false) 21 rfl kj kj ?_
  refine Qaa (.bool false) 22 rfl kj kj ?_
  refine Qae ?_
  refine hK4 _ _ ?_
  refine cond_false kj ?_
  refine wp_skip ?_
  refine hK3 _ _ ?_
  refine wp_seq_k fun K5 hK5=>?_
  refine wp_seq_k fun K6 hK6=>?_
  refine Qab ?_
  refine Qaa (.slice a_t ts.length c_t) 23 rfl kj kj ?_
  refine Qaa (.pointer (some ⟨g2,1,none⟩)) 24 rfl kj kj ?_
  have r2_3:=(Qah r2_2 e3)
  refine Qaa (.int .i64 nd.n.nm) 25 rfl kj (Qag 3 _ g2 1 41 _ (.int .i64 nd.n.nm) _ r2_3 rfl kj (Qak [#[.bool nd.n.us]] [#[.int .i64 nd.n.nm]] [ints .u8 (nd.n.key),ints .u8 (nd.n.sg),ints .u8 (nd.n.pa),#[.slice nd.a nd.n.ms.length nd.c]] 1 kj 0 _ rfl) kj) ?_
  refine Qal (.int .i64 (QaG ts nd.n.nm)) 17 #[.slice a_t ts.length c_t,.int .i64 nd.n.nm] 26 rfl kj kj (Qjf ts a_t c_t _ _ (TrAt.ext ht x3) htl nd.n.nm) fun W4 e4=>?_
  have x4:Ext w W4:=Ext.tr x3 e4
  refine Qaa (.bool true) 27 rfl kj (Qai (u:=.bool (decide ((QaG ts nd.n.nm)≥0))) kj (congrArg Value.bool (decide_eq_true (by omega)))) ?_
  refine Qae ?_
  refine hK6 _ _ ?_
  refine cond_true kj ?_
  refine wp_seq_k fun K7 hK7=>?_
  refine Qab ?_
  refine Qaa (.slice none 0 0) 4 rfl kj kj ?_
  refine Qaa (.int .i64 0) 5 rfl kj kj ?_
  refine Qaa (.int .i64 9) 6 rfl kj kj ?_
  refine Qae ?_
  refine hK7 _ _ ?_
  refine wp_ret ?_
  repeat (first | with_reducible refine goR1 ?_ | with_reducible refine goR2 ?_)
  exact (show bodyPost _ _ _ .ret _ _ from ret3 (.slice none 0 0) (.int .i64 0) (.int .i64 9) rfl (Qam kj) (Qam kj) (Qam kj) ⟨rfl,x4⟩)
set_option maxRecDepth 100000 in
theorem Qln (ts : List NdV) (a_t:Option Addr) (c_t B1:Nat) (w:World) (ht:TrAt B1 w a_t ts) (htl:ts.length≤100000) (hmt:∀ i,i<ts.length→(ndi ts i).n.ms.length≤1000) (nd:NdV) (hok:NdOk nd.n) (B2:Nat) (hr:RdK .i64 B2 nd.n.ms (.slice nd.a nd.n.ms.length nd.c) w) (hc:chkT ts=true) (hs:QaO nd.n=true) (hf:QaG ts nd.n.nm<0) (L:Nat) (hL:leaves ((ts.length:Nat):Int)=((L:Nat):Int)) (hL3:L≤32) (hlen:ts.length+1=2*L) (h32:L=32) (hfu:∀ j,j<L→(ndi ts (2*j)).n.us=true):Calls Tryd.prog 26 #[.slice a_t ts.length c_t,.agg (cat [#[.bool nd.n.us],#[.int .i64 nd.n.nm],ints .u8 (nd.n.key),ints .u8 (nd.n.sg),ints .u8 (nd.n.pa),#[.slice nd.a nd.n.ms.length nd.c]])] w (Ret w (.tuple #[.slice none 0 0,.int .i64 0,.int .i64 5])):=by
 refine enter 123 [(0,.slice a_t ts.length c_t),(1,.agg (cat [#[.bool nd.n.us],#[.int .i64 nd.n.nm],ints .u8 (nd.n.key),ints .u8 (nd.n.sg),ints .u8 (nd.n.pa),#[.slice nd.a nd.n.ms.length nd.c]]))] Tryd.func26 rfl rfl kj rfl ?_
 refine wp_seq_k fun K1 hK1=>?_
 refine Qab ?_
 refine Qap (cat [#[.bool nd.n.us],#[.int .i64 nd.n.nm],ints .u8 (nd.n.key),ints .u8 (nd.n.sg),ints .u8 (nd.n.pa),#[.slice nd.a nd.n.ms.length nd.c]]) 41 3 rfl kj kj fun g2 W1 l2 e1 r2_1=>?_
 have x1:Ext w W1:=Ext.tr (Rely.Ext.refl w) e1
 have b2:w.heap.size≤g2:=qT (Rely.Ext.refl w).size l2
 refine Qaa (.slice none 0 0) 4 rfl kj kj ?_
 refine Qaa (.int .i64 0) 5 rfl kj kj ?_
 refine Qaa (.int .i64 0) 6 rfl kj kj ?_
 refine Qae ?_
 refine hK1 _ _ ?_
 refine wp_seq_k fun K3 hK3=>?_
 refine wp_seq_k fun K4 hK4=>?_
 refine Qab ?_
 refine Qaa (.slice a_t ts.length c_t) 15 rfl kj kj ?_
 refine Qal (.bool true) 12 #[.slice a_t ts.length c_t] 16 rfl kj kj (Qeo ts a_t c_t _ _ (TrAt.ext ht x1) htl (fun i hi=>qT (hmt i hi) (by decide)) true hc) fun W2 e2=>?_
 have x2:Ext w W2:=Ext.tr x1 e2
 refine Qaa (.bool false) 17 rfl kj kj ?_
 refine Qaa (.bool false) 18 rfl kj kj ?_
 have r2_2:=(Qah r2_1 e2)
 refine Qaa (.agg (cat [#[.bool nd.n.us],#[.int .i64 nd.n.nm],ints .u8 (nd.n.key),ints .u8 (nd.n.sg),ints .u8 (nd.n.pa),#[.slice nd.a nd.n.ms.length nd.c]])) 19 rfl kj (Qa9 41 _ g2 41 _ _ r2_2 rfl kj kj (isz (n:=99) kj (by rw [Qac,Qac,Qac,Qac,Qac,Qac]; simp only [qS,cat,((Qaf _ _).trans hok.gl),((Qaf _ _).trans hok.kl),((Qaf _ _).trans hok.pl)]; rfl))) ?_
 refine Qal (.bool true) 43 #[.agg (cat [#[.bool nd.n.us],#[.int .i64 nd.n.nm],ints .u8 (nd.n.key),ints .u8 (nd.n.sg),ints .u8 (nd.n.pa),#[.slice nd.a nd.n.ms.length nd.c]])] 20 rfl kj kj ((hs▸Qe9 nd hok _)) fun W3 e3=>?_
 have x3:Ext w W3:=Ext.tr x2 e3
 refine Qaa (.bool false) 21 rfl kj kj ?_
 refine Qaa (.bool false) 22 rfl kj kj ?_
 refine Qae ?_
 refine hK4 _ _ ?_
 refine cond_false kj ?_
 refine wp_skip ?_
 refine hK3 _ _ ?_
 refine wp_seq_k fun K5 hK5=>?_
 refine wp_seq_k fun K6 hK6=>?_
 refine Qab ?_
 refine Qaa (.slice a_t ts.length c_t) 23 rfl kj kj ?_
 refine Qaa (.pointer (some ⟨g2,1,none⟩)) 24 rfl kj kj ?_
 have r2_3:=(Qah r2_2 e3)
 refine Qaa (.int .i64 nd.n.nm) 25 rfl kj (Qag 3 _ g2 1 41 _ (.int .i64 nd.n.nm) _ r2_3 rfl kj (Qak [#[.bool nd.n.us]] [#[.int .i64 nd.n.nm]] [ints .u8 (nd.n.key),ints .u8 (nd.n.sg),ints .u8 (nd.n.pa),#[.slice nd.a nd.n.ms.length nd.c]] 1 kj 0 _ rfl) kj) ?_
 refine Qal (.int .i64 (QaG ts nd.n.nm)) 17 #[.slice a_t ts.length c_t,.int .i64 nd.n.nm] 26 rfl kj kj (Qjf ts a_t c_t _ _ (TrAt.ext ht x3) htl nd.n.nm) fun W4 e4=>?_
 have x4:Ext w W4:=Ext.tr x3 e4
 refine Qaa (.bool false) 27 rfl kj (Qai (u:=.bool (decide ((QaG ts nd.n.nm)≥0))) kj (congrArg Value.bool (decide_eq_false (by omega)))) ?_
 refine Qae ?_
 refine hK6 _ _ ?_
 refine cond_false kj ?_
 refine wp_skip ?_
 refine hK5 _ _ ?_
 refine wp_seq_k fun K7 hK7=>?_
 refine Qab ?_
 refine Qaa (.int .i64 0) 7 rfl kj kj ?_
 refine Qae ?_
 refine hK7 _ _ ?_
 refine wp_seq_k fun K8 hK8=>?_
 refine wp_block ?_
 refine Qaz (fun (s1:Nat)=>[(0,.slice a_t ts.length c_t),(3,.pointer (some ⟨g2,0,none⟩)),(7,.int .i64 ((s1:Nat):Int))]) (fun (s1:Nat) W=>(s1≤L)∧(Ext W4 W)∧(Ext w W)) (fun (s1:Nat)=>L-s1) 0 ⟨rfl,rfl,rfl,trivial⟩ ⟨(Nat.zero_le _),(Rely.Ext.refl W4),x4⟩ fun s1 X1 V1 hI1=>?_
 obtain ⟨k,hs1⟩:∃ z,z=s1:=⟨_,rfl⟩
 subst hs1
 obtain ⟨hk,kk1,xx1⟩:=hI1
 replace hk:k≤L:=hk
 replace kk1:Ext W4 V1:=kk1
 replace xx1:Ext w V1:=xx1
 have e5:=kk1
 refine wp_seq_k fun K9 hK9=>?_
 refine wp_seq_k fun K10 hK10=>?_
 rcases (show k<L∨L=k by omega) with hq | hq
 ·skip
  obtain ⟨gyT,oyT,hay,hnys⟩:=TrAt.ext ht xx1
  have hny:=hnys (2*k) (by omega)
  obtain ⟨ny,eny⟩:∃ z,z=ndi ts (2*k):=⟨_,rfl⟩
  rw [←eny] at hny
  have oky:=hny.ok
  have rdy:=hny.rd
  have hyu:ny.n.us=true:=eny▸hfu k hq
  refine Qab ?_
  refine Qaa (.int .i64 ((k:Nat):Int)) 28 rfl kj kj ?_
  refine Qaa (.int .i64 (((2*k:Nat):Int))) 29 rfl kj (Qai (u:=.int .i64 (IntKind.i64.wrap (2*((k:Nat):Int)))) kj (congrArg (Value.int .i64) ((IntWalk.i64_in _ (by omega)).trans (by omega)))) ?_
  refine Qaa (.slice a_t ts.length c_t) 30 rfl kj kj ?_
  refine Qaa (.int .i64 ((ts.length:Nat):Int)) 31 rfl kj kj ?_
  refine Qaa (.bool true) 32 rfl kj (Qai (u:=.bool (decide (((2*k:Nat):Int)<((ts.length:Nat):Int)))) kj (congrArg Value.bool (decide_eq_true (by omega)))) ?_
  refine Qaa (.bool true) 33 rfl kj kj ?_
  refine Qaa (.slice a_t ts.length c_t) 34 rfl kj kj ?_
  refine Qaa (.int .i64 ((k:Nat):Int)) 35 rfl kj kj ?_
  refine Qaa (.int .i64 (((2*k:Nat):Int))) 36 rfl kj (Qai (u:=.int .i64 (IntKind.i64.wrap (2*((k:Nat):Int)))) kj (congrArg (Value.int .i64) ((IntWalk.i64_in _ (by omega)).trans (by omega)))) ?_
  refine Qaa (.pointer (some ⟨gyT,oyT+(2*k)*99,none⟩)) 37 rfl kj (Qao 23 _ _ .i64 (2*k) gyT oyT ts.length c_t 41 99 a_t (hay (by omega)) rfl kj kj kj kj (by omega)) ?_
  refine Qaa (.pointer (some ⟨gyT,oyT+(2*k)*99,none⟩)) 38 rfl kj kj ?_
  refine Qaa (.bool true) 39 rfl kj (Qaj 4 _ _ (.bool true) ((NdAt.at3 hny).1.trans (congrArg (fun z=>some (Value.bool z)) hyu)) rfl kj kj) ?_
  refine Qaa (.bool true) 40 rfl kj kj ?_
  refine Qae ?_
  refine hK10 _ _ ?_
  refine cond_true kj ?_
  refine wp_skip ?_
  refine hK9 _ _ ?_
  refine wp_block ?_
  refine Qab ?_
  refine Qaa (.int .i64 ((k:Nat):Int)) 41 rfl kj kj ?_
  refine Qaa (.int .i64 ((k+1:Nat):Int)) 42 rfl kj (Qai (u:=.int .i64 (IntKind.i64.wrap (((k:Nat):Int)+1))) kj (congrArg (Value.int .i64) (i64n _ _ (by omega) (by omega)))) ?_
  refine Qaa (.int .i64 ((k+1:Nat):Int)) 7 rfl kj kj ?_
  refine Qae ?_
  repeat (first | with_reducible refine goX1 ?_ | with_reducible refine goX2 ?_ | with_reducible refine goX3 ?_)
  exact Qas (k+1) ⟨rfl,rfl,rfl,trivial⟩ ⟨(by omega),e5,xx1⟩ (by show L-(k+1)<L-k; omega)
 ·skip
  refine Qab ?_
  refine Qaa (.int .i64 ((k:Nat):Int)) 28 rfl kj kj ?_
  refine Qaa (.int .i64 (((2*k:Nat):Int))) 29 rfl kj (Qai (u:=.int .i64 (IntKind.i64.wrap (2*((k:Nat):Int)))) kj (congrArg (Value.int .i64) ((IntWalk.i64_in _ (by omega)).trans (by omega)))) ?_
  refine Qaa (.slice a_t ts.length c_t) 30 rfl kj kj ?_
  refine Qaa (.int .i64 ((ts.length:Nat):Int)) 31 rfl kj kj ?_
  refine Qaa (.bool false) 32 rfl kj (Qai (u:=.bool (decide (((2*k:Nat):Int)<((ts.length:Nat):Int)))) kj (congrArg Value.bool (decide_eq_false (by omega)))) ?_
  refine Qaa (.bool false) 33 rfl kj kj ?_
  refine Qad 34 rfl kj ?_
  refine Qad 35 rfl kj ?_
  refine Qad 36 rfl kj ?_
  refine Qad 37 rfl kj ?_
  refine Qad 38 rfl kj ?_
  refine Qad 39 rfl kj ?_
  refine Qaa (.bool false) 40 rfl kj kj ?_
  refine Qae ?_
  refine hK10 _ _ ?_
  refine cond_false kj ?_
  refine wp_exit ?_
  refine hK8 _ _ ?_
  refine wp_seq_k fun K11 hK11=>?_
  refine wp_seq_k fun K12 hK12=>?_
  refine Qab ?_
  refine Qaa (.int .i64 ((k:Nat):Int)) 43 rfl kj kj ?_
  refine Qaa (.bool true) 44 rfl kj (Qai (u:=.bool ((((k:Nat):Int)==32))) kj (congrArg Value.bool (beq_iff_eq.2 (by omega)))) ?_
  refine Qae ?_
  refine hK12 _ _ ?_
  refine cond_true kj ?_
  refine wp_seq_k fun K13 hK13=>?_
  refine Qab ?_
  refine Qaa (.slice none 0 0) 4 rfl kj kj ?_
  refine Qaa (.int .i64 0) 5 rfl kj kj ?_
  refine Qaa (.int .i64 5) 6 rfl kj kj ?_
  refine Qae ?_
  refine hK13 _ _ ?_
  refine wp_ret ?_
  repeat (first | with_reducible refine goR1 ?_ | with_reducible refine goR2 ?_)
  exact (show bodyPost _ _ _ .ret _ _ from ret3 (.slice none 0 0) (.int .i64 0) (.int .i64 5) rfl (Qam kj) (Qam kj) (Qam kj) ⟨rfl,xx1⟩)
end Go.Proofs.YtcmaolmofgmkhaaDoor.Te
end
section
namespace Go.Proofs.YtcmaolmofgmkhaaDoor.Te
open Go Go.RowKit
open Rely Auto Own Seat Sha
theorem OwH.nodeH {base g M c i x:Nat} {ts:List NdV} {W:World} (hM:ts.length=M) (t:OwH base ts (.slice (some ⟨g,0,none⟩) M c) W (some i)) (hx:x<M) (hxi:x≠i):NdAt W.heap.size W g (0+x*99) (ndi ts x):=by
  subst hM
  obtain ⟨g',c',cur,e,q2,q3,q4,q5,q6,q7⟩:=t.opens (by omega)
  simp only [Value.slice.injEq,Option.some.injEq,Addr.mk.injEq] at e
  obtain ⟨⟨rfl,-⟩,-,rfl⟩:=e
  refine ⟨QaB q3,QaB q3,fun j u hu=>?_,RdK.here (OwnN.rd (t.nd x hx (by simpa using hxi)).2.2),t.ok x hx⟩
  have hj:j<99:=by have:=(Array.getElem?_eq_some_iff.1 hu).1; rw [Qbf _ (t.ok x hx)] at this; exact this
  rw [Nat.zero_add,QbU q3,q7 x hx j hj,hu]
theorem OwH.setFH {base g c i x M:Nat} {ts:List NdV} {ms:List Int} {a':Option Addr} {c':Nat} {W W':World} {cur:Array Value} (hM:ts.length=M) (t:OwH base ts (.slice (some ⟨g,0,none⟩) M c) W (some i)) (hx:x<M) (hxi:x≠i) (r:W.heap[g]? = some (.cells cur 41)) (p:Puts W g W') (r':W'.heap[g]? = some (.cells (cur.setIfInBounds (x*99+98) (.slice a' ms.length c')) 41))
    (hn:NdIn base W ⟨{ (ndi ts x).n with ms:=ms },a',c'⟩) (ha:∀ j,j<M→j≠x→j≠i→∀ g,ob ⟨{ (ndi ts x).n with ms:=ms },a',c'⟩=some g→ob (ndi ts j)≠some g):OwH base (ts.set x ⟨{ (ndi ts x).n with ms:=ms },a',c'⟩) (.slice (some ⟨g,0,none⟩) M c) W' (some i):=by
  subst hM
  obtain ⟨g',c2,cur',e,q2,q3,q4,q5,q6,q7⟩:=t.opens (by omega)
  simp only [Value.slice.injEq,Option.some.injEq,Addr.mk.injEq] at e
  obtain ⟨⟨rfl,-⟩,-,rfl⟩:=e
  rw [r] at q3
  simp only [Option.some.injEq,Obj.cells.injEq,and_true] at q3
  subst q3
  obtain ⟨n,hnn⟩:∃ n:NdV,n=⟨{ (ndi ts x).n with ms:=ms },a',c'⟩:=⟨_,rfl⟩
  rw [←hnn] at hn ha ⊢
  have kp:∀ m:NdV,NdIn base W m→NdIn base W' m:=fun m hm=>hm.keep fun k hk=>p.2.2.2.2 k fun e=>by
    obtain ⟨cur2,r2⟩:=QbP hm.2.2 hk
    rw [e,r] at r2
    simp at r2
  have:=OwH.made (h:=some i) (ts:=ts.set x n) (c:=c) q2 r' (by rw [Array.size_setIfInBounds]; exact q4) (by rw [List.length_set]; exact q5) q6 (fun k hk j hj=>by
    rw [List.length_set] at hk
    rw [QaC n hx,Array.getElem?_setIfInBounds]
    by_cases e:k=x
    · subst e
      rw [if_pos rfl,hnn,Qj2 _ (t.ok k hk) ms a' c' j hj]
      by_cases e2:j=98
      · rw [if_pos (by omega),if_pos e2,if_pos (by omega)]
      · rw [if_neg (by omega),if_neg e2,q7 k hk j hj]
    · rw [if_neg (by omega),if_neg e,q7 k hk j hj]) (fun k hk=>by
    rw [List.length_set] at hk
    rw [QaC n hx]
    split
    · exact hn.1
    · exact t.ok k hk) (fun k hk hki=>by
    rw [List.length_set] at hk
    rw [QaC n hx]
    split
    · exact kp n hn
    · exact kp _ (t.nd k hk hki)) (QeF hx t.ap (fun _ _ q=>q) fun _ j hj hji hjh=>ha j hj hji (by simpa using hjh))
  rwa [List.length_set] at this
section
variable {ds : List Deferred} {P : Program} {ops : Array Oper} {Q : Exit → Act → World → Prop} {rest : List Oper} {o : Oper} {N : Nat} {L : Env} {W : World}
theorem Qfv (ty : TypeId) (x y:Operand) {base g c i u M:Nat} {ts:List NdV} {ms:List Int} {a':Option Addr} {c':Nat} (hM:ts.length=M) (t:OwH base ts (.slice (some ⟨g,0,none⟩) M c) W (some i)) (hu:u<M) (hui:u≠i)
    (hn:NdIn base W ⟨{ (ndi ts u).n with ms:=ms },a',c'⟩) (ha:∀ j,j<M→j≠u→j≠i→∀ g,ob ⟨{ (ndi ts u).n with ms:=ms },a',c'⟩=some g→ob (ndi ts j)≠some g)
    (ho:o.op=.store ty x y) (hx:Rely.look (envN N L) x=.pointer (some ⟨g,0+u*99+98,none⟩)) (hy:Rely.look (envN N L) y=.slice a' ms.length c') (hi1:(P.info? ty).map (·.size)=some 1) (hd:o.dst=none) (hg:Qbe ops o N L=some true)
    (kk:∀ W',Puts W g W'→OwH base (ts.set u ⟨{ (ndi ts u).n with ms:=ms },a',c'⟩) (.slice (some ⟨g,0,none⟩) M c) W' (some i)→WL P ops Q rest (Qar ds N L) W'):WL P ops Q (o::rest) (Qar ds N L) W:=by
  obtain ⟨g',c2,cur,e,q2,q3,q4,q5,q6,q7⟩:=t.opens (by omega)
  simp only [Value.slice.injEq,Option.some.injEq,Addr.mk.injEq] at e
  obtain ⟨⟨rfl,-⟩,-,rfl⟩:=e
  rw [Nat.zero_add] at hx
  exact Qa5 g cur _ _ q3 hd hg (Qa4 ty x y g (u*99+98) _ cur (.slice a' ms.length c') q3 ho hx hy hi1 (by simp only [Nat.blt_eq]; omega) rfl rfl) fun W' p r'=>kk W' p (t.setFH hM hu hui q3 p r' hn ha)
end
theorem Qgy {y n:Int} {k:Nat} (hy:Qau y n=true) (hk:k<6) (hall:∀ i,i≤k→0≤upn y n i):upN y n k∉(List.range k).map (upN y n)∧((List.range k).map (upN y n)).Nodup:=by
  have inj:∀ a b,a≤k→b≤k→upN y n a=upN y n b→a=b:=fun a b ha hb e=>by
    have e1:=Qb8 (hall a ha)
    have e2:=Qb8 (hall b hb)
    exact Qhk hy (by omega) (by omega) (hall a ha) (by omega)
  refine ⟨fun h=>?_,Qed List.nodup_range fun a ha b hb e=>inj a b (by have:=List.mem_range.1 ha; omega) (by have:=List.mem_range.1 hb; omega) e⟩
  obtain ⟨j,hj,e⟩:=List.mem_map.1 h
  have hj:=List.mem_range.1 hj
  have:=inj j k (by omega) (qR _) e
  omega
end Go.Proofs.YtcmaolmofgmkhaaDoor.Te
end
section
namespace Go.Proofs.YtcmaolmofgmkhaaDoor.Te
open Go Go.RowKit
open Rely Auto Own Seat Sha
set_option maxRecDepth 100000 in
theorem Qls (ts : List NdV) (a_t:Option Addr) (c_t B1:Nat) (w:World) (ht:TrAt B1 w a_t ts) (htl:ts.length≤100000) (hmt:∀ i,i<ts.length→(ndi ts i).n.ms.length≤1000) (nd:NdV) (hok:NdOk nd.n) (hc:chkT ts=true) (hs:QaO nd.n=true) (hf:QaG ts nd.n.nm<0) (L:Nat) (hL:leaves ((ts.length:Nat):Int)=((L:Nat):Int)) (hL3:L≤32) (hlen:ts.length+1=2*L) (hTr:Qax ((L:Nat):Int)=true) (F:Form ts L) (m:Nat) (hmL:m<L) (hfu:∀ j,j<m→(ndi ts (2*j)).n.us=true) (hfm:(ndi ts (2*m)).n.us=false) (hm9:∀ i,i<ts.length→(ndi ts i).n.ms.length≤900) (hms:nd.n.ms=[]) (B3:Nat) (hr0:RdK .i64 B3 [] (.slice nd.a 0 nd.c) w):Calls Tryd.prog 26 #[.slice a_t ts.length c_t,.agg (cat [#[.bool nd.n.us],#[.int .i64 nd.n.nm],ints .u8 (nd.n.key),ints .u8 (nd.n.sg),ints .u8 (nd.n.pa),#[.slice nd.a nd.n.ms.length nd.c]])] w (QbH w (fun v W=>∃ us vs,AsC us ts∧AsC vs (addT us m nd L)∧∃ u,v=.tuple #[u,.int .i64 ((m:Nat):Int),.int .i64 0]∧FrT w.heap.size vs u W)):=by
 obtain ⟨K,hK,hneg,hall⟩:=Qhm (2*((m:Nat):Int)) ((L:Nat):Int)
 refine enter 123 [(0,.slice a_t ts.length c_t),(1,.agg (cat [#[.bool nd.n.us],#[.int .i64 nd.n.nm],ints .u8 (nd.n.key),ints .u8 (nd.n.sg),ints .u8 (nd.n.pa),#[.slice nd.a nd.n.ms.length nd.c]]))] Tryd.func26 rfl rfl kj rfl ?_
 refine wp_seq_k fun K1 hK1=>?_
 refine Qab ?_
 refine Qap (cat [#[.bool nd.n.us],#[.int .i64 nd.n.nm],ints .u8 (nd.n.key),ints .u8 (nd.n.sg),ints .u8 (nd.n.pa),#[.slice nd.a nd.n.ms.length nd.c]]) 41 3 rfl kj kj fun g2 W1 l2 e1 r2_1=>?_
 have x1:Ext w W1:=Ext.tr (Rely.Ext.refl w) e1
 have b2:w.heap.size≤g2:=qT (Rely.Ext.refl w).size l2
 refine Qaa (.slice none 0 0) 4 rfl kj kj ?_
 refine Qaa (.int .i64 0) 5 rfl kj kj ?_
 refine Qaa (.int .i64 0) 6 rfl kj kj ?_
 refine Qae ?_
 refine hK1 _ _ ?_
 refine wp_seq_k fun K3 hK3=>?_
 refine wp_seq_k fun K4 hK4=>?_
 refine Qab ?_
 refine Qaa (.slice a_t ts.length c_t) 15 rfl kj kj ?_
 refine Qal (.bool true) 12 #[.slice a_t ts.length c_t] 16 rfl kj kj (Qeo ts a_t c_t _ _ (TrAt.ext ht x1) htl (fun i hi=>qT (hmt i hi) (by decide)) true hc) fun W2 e2=>?_
 have x2:Ext w W2:=Ext.tr x1 e2
 refine Qaa (.bool false) 17 rfl kj kj ?_
 refine Qaa (.bool false) 18 rfl kj kj ?_
 have r2_2:=(Qah r2_1 e2)
 refine Qaa (.agg (cat [#[.bool nd.n.us],#[.int .i64 nd.n.nm],ints .u8 (nd.n.key),ints .u8 (nd.n.sg),ints .u8 (nd.n.pa),#[.slice nd.a nd.n.ms.length nd.c]])) 19 rfl kj (Qa9 41 _ g2 41 _ _ r2_2 rfl kj kj (isz (n:=99) kj (by rw [Qac,Qac,Qac,Qac,Qac,Qac]; simp only [qS,cat,((Qaf _ _).trans hok.gl),((Qaf _ _).trans hok.kl),((Qaf _ _).trans hok.pl)]; rfl))) ?_
 refine Qal (.bool true) 43 #[.agg (cat [#[.bool nd.n.us],#[.int .i64 nd.n.nm],ints .u8 (nd.n.key),ints .u8 (nd.n.sg),ints .u8 (nd.n.pa),#[.slice nd.a nd.n.ms.length nd.c]])] 20 rfl kj kj ((hs▸Qe9 nd hok _)) fun W3 e3=>?_
 have x3:Ext w W3:=Ext.tr x2 e3
 refine Qaa (.bool false) 21 rfl kj kj ?_
 refine Qaa (.bool false) 22 rfl kj kj ?_
 refine Qae ?_
 refine hK4 _ _ ?_
 refine cond_false kj ?_
 refine wp_skip ?_
 refine hK3 _ _ ?_
 refine wp_seq_k fun K5 hK5=>?_
 refine wp_seq_k fun K6 hK6=>?_
 refine Qab ?_
 refine Qaa (.slice a_t ts.length c_t) 23 rfl kj kj ?_
 refine Qaa (.pointer (some ⟨g2,1,none⟩)) 24 rfl kj kj ?_
 have r2_3:=(Qah r2_2 e3)
 refine Qaa (.int .i64 nd.n.nm) 25 rfl kj (Qag 3 _ g2 1 41 _ (.int .i64 nd.n.nm) _ r2_3 rfl kj (Qak [#[.bool nd.n.us]] [#[.int .i64 nd.n.nm]] [ints .u8 (nd.n.key),ints .u8 (nd.n.sg),ints .u8 (nd.n.pa),#[.slice nd.a nd.n.ms.length nd.c]] 1 kj 0 _ rfl) kj) ?_
 refine Qal (.int .i64 (QaG ts nd.n.nm)) 17 #[.slice a_t ts.length c_t,.int .i64 nd.n.nm] 26 rfl kj kj (Qjf ts a_t c_t _ _ (TrAt.ext ht x3) htl nd.n.nm) fun W4 e4=>?_
 have x4:Ext w W4:=Ext.tr x3 e4
 refine Qaa (.bool false) 27 rfl kj (Qai (u:=.bool (decide ((QaG ts nd.n.nm)≥0))) kj (congrArg Value.bool (decide_eq_false (by omega)))) ?_
 refine Qae ?_
 refine hK6 _ _ ?_
 refine cond_false kj ?_
 refine wp_skip ?_
 refine hK5 _ _ ?_
 refine wp_seq_k fun K7 hK7=>?_
 refine Qab ?_
 refine Qaa (.int .i64 0) 7 rfl kj kj ?_
 refine Qae ?_
 refine hK7 _ _ ?_
 refine wp_seq_k fun K8 hK8=>?_
 refine wp_block ?_
 refine Qaz (fun (s1:Nat)=>[(0,.slice a_t ts.length c_t),(3,.pointer (some ⟨g2,0,none⟩)),(7,.int .i64 ((s1:Nat):Int))]) (fun (s1:Nat) W=>(s1≤m)∧(Ext W4 W)∧(Ext w W)) (fun (s1:Nat)=>m-s1) 0 ⟨rfl,rfl,rfl,trivial⟩ ⟨(Nat.zero_le _),(Rely.Ext.refl W4),x4⟩ fun s1 X1 V1 hI1=>?_
 obtain ⟨k,hs1⟩:∃ z,z=s1:=⟨_,rfl⟩
 subst hs1
 obtain ⟨hk,kk1,xx1⟩:=hI1
 replace hk:k≤m:=hk
 replace kk1:Ext W4 V1:=kk1
 replace xx1:Ext w V1:=xx1
 have e5:=kk1
 refine wp_seq_k fun K9 hK9=>?_
 refine wp_seq_k fun K10 hK10=>?_
 rcases (show k<m∨m=k by omega) with hq | hq
 ·skip
  obtain ⟨gyT,oyT,hay,hnys⟩:=TrAt.ext ht xx1
  have hny:=hnys (2*k) (by omega)
  obtain ⟨ny,eny⟩:∃ z,z=ndi ts (2*k):=⟨_,rfl⟩
  rw [←eny] at hny
  have oky:=hny.ok
  have rdy:=hny.rd
  have hyu:ny.n.us=true:=eny▸hfu k hq
  refine Qab ?_
  refine Qaa (.int .i64 ((k:Nat):Int)) 28 rfl kj kj ?_
  refine Qaa (.int .i64 (((2*k:Nat):Int))) 29 rfl kj (Qai (u:=.int .i64 (IntKind.i64.wrap (2*((k:Nat):Int)))) kj (congrArg (Value.int .i64) ((IntWalk.i64_in _ (by omega)).trans (by omega)))) ?_
  refine Qaa (.slice a_t ts.length c_t) 30 rfl kj kj ?_
  refine Qaa (.int .i64 ((ts.length:Nat):Int)) 31 rfl kj kj ?_
  refine Qaa (.bool true) 32 rfl kj (Qai (u:=.bool (decide (((2*k:Nat):Int)<((ts.length:Nat):Int)))) kj (congrArg Value.bool (decide_eq_true (by omega)))) ?_
  refine Qaa (.bool true) 33 rfl kj kj ?_
  refine Qaa (.slice a_t ts.length c_t) 34 rfl kj kj ?_
  refine Qaa (.int .i64 ((k:Nat):Int)) 35 rfl kj kj ?_
  refine Qaa (.int .i64 (((2*k:Nat):Int))) 36 rfl kj (Qai (u:=.int .i64 (IntKind.i64.wrap (2*((k:Nat):Int)))) kj (congrArg (Value.int .i64) ((IntWalk.i64_in _ (by omega)).trans (by omega)))) ?_
  refine Qaa (.pointer (some ⟨gyT,oyT+(2*k)*99,none⟩)) 37 rfl kj (Qao 23 _ _ .i64 (2*k) gyT oyT ts.length c_t 41 99 a_t (hay (by omega)) rfl kj kj kj kj (by omega)) ?_
  refine Qaa (.pointer (some ⟨gyT,oyT+(2*k)*99,none⟩)) 38 rfl kj kj ?_
  refine Qaa (.bool true) 39 rfl kj (Qaj 4 _ _ (.bool true) ((NdAt.at3 hny).1.trans (congrArg (fun z=>some (Value.bool z)) hyu)) rfl kj kj) ?_
  refine Qaa (.bool true) 40 rfl kj kj ?_
  refine Qae ?_
  refine hK10 _ _ ?_
  refine cond_true kj ?_
  refine wp_skip ?_
  refine hK9 _ _ ?_
  refine wp_block ?_
  refine Qab ?_
  refine Qaa (.int .i64 ((k:Nat):Int)) 41 rfl kj kj ?_
  refine Qaa (.int .i64 ((k+1:Nat):Int)) 42 rfl kj (Qai (u:=.int .i64 (IntKind.i64.wrap (((k:Nat):Int)+1))) kj (congrArg (Value.int .i64) (i64n _ _ (by omega) (by omega)))) ?_
  refine Qaa (.int .i64 ((k+1:Nat):Int)) 7 rfl kj kj ?_
  refine Qae ?_
  repeat (first | with_reducible refine goX1 ?_ | with_reducible refine goX2 ?_ | with_reducible refine goX3 ?_)
  exact Qas (k+1) ⟨rfl,rfl,rfl,trivial⟩ ⟨(by omega),e5,xx1⟩ (by show m-(k+1)<m-k; omega)
 ·skip
  obtain ⟨gyT,oyT,hay,hnys⟩:=TrAt.ext ht xx1
  have hny:=hnys (2*k) (by omega)
  obtain ⟨ny,eny⟩:∃ z,z=ndi ts (2*k):=⟨_,rfl⟩
  rw [←eny] at hny
  have oky:=hny.ok
  have rdy:=hny.rd
  have hyu:ny.n.us=false:=eny▸hq▸hfm
  refine Qab ?_
  refine Qaa (.int .i64 ((k:Nat):Int)) 28 rfl kj kj ?_
  refine Qaa (.int .i64 (((2*k:Nat):Int))) 29 rfl kj (Qai (u:=.int .i64 (IntKind.i64.wrap (2*((k:Nat):Int)))) kj (congrArg (Value.int .i64) ((IntWalk.i64_in _ (by omega)).trans (by omega)))) ?_
  refine Qaa (.slice a_t ts.length c_t) 30 rfl kj kj ?_
  refine Qaa (.int .i64 ((ts.length:Nat):Int)) 31 rfl kj kj ?_
  refine Qaa (.bool true) 32 rfl kj (Qai (u:=.bool (decide (((2*k:Nat):Int)<((ts.length:Nat):Int)))) kj (congrArg Value.bool (decide_eq_true (by omega)))) ?_
  refine Qaa (.bool true) 33 rfl kj kj ?_
  refine Qaa (.slice a_t ts.length c_t) 34 rfl kj kj ?_
  refine Qaa (.int .i64 ((k:Nat):Int)) 35 rfl kj kj ?_
  refine Qaa (.int .i64 (((2*k:Nat):Int))) 36 rfl kj (Qai (u:=.int .i64 (IntKind.i64.wrap (2*((k:Nat):Int)))) kj (congrArg (Value.int .i64) ((IntWalk.i64_in _ (by omega)).trans (by omega)))) ?_
  refine Qaa (.pointer (some ⟨gyT,oyT+(2*k)*99,none⟩)) 37 rfl kj (Qao 23 _ _ .i64 (2*k) gyT oyT ts.length c_t 41 99 a_t (hay (by omega)) rfl kj kj kj kj (by omega)) ?_
  refine Qaa (.pointer (some ⟨gyT,oyT+(2*k)*99,none⟩)) 38 rfl kj kj ?_
  refine Qaa (.bool false) 39 rfl kj (Qaj 4 _ _ (.bool false) ((NdAt.at3 hny).1.trans (congrArg (fun z=>some (Value.bool z)) hyu)) rfl kj kj) ?_
  refine Qaa (.bool false) 40 rfl kj kj ?_
  refine Qae ?_
  refine hK10 _ _ ?_
  refine cond_false kj ?_
  refine wp_exit ?_
  refine hK8 _ _ ?_
  refine wp_seq_k fun K11 hK11=>?_
  refine wp_seq_k fun K12 hK12=>?_
  rw [←hq]
  skip
  ·skip
   refine Qab ?_
   refine Qaa (.int .i64 ((m:Nat):Int)) 43 rfl kj kj ?_
   refine Qaa (.bool false) 44 rfl kj (Qai (u:=.bool ((((m:Nat):Int)==32))) kj (congrArg Value.bool (beq_eq_false_iff_ne.2 (by omega)))) ?_
   refine Qae ?_
   refine hK12 _ _ ?_
   refine cond_false kj ?_
   refine wp_skip ?_
   refine hK11 _ _ ?_
   refine wp_seq_k fun K13 hK13=>?_
   refine Qab ?_
   refine Qaa (.slice a_t ts.length c_t) 45 rfl kj kj ?_
   refine Qa7 (fun v W'=>(fun v W9=>∃ us,AsC us ts∧OwT V1.heap.size us v W9) v W'∧Ext V1 W') 21 #[.slice a_t ts.length c_t] 46 rfl kj kj ((QhA ts a_t _ _ _ (TrAt.ext ht xx1) htl hmt).mono (by rintro e w' ⟨v,rfl,e1,hv⟩; exact ⟨v,rfl,hv,e1⟩)) fun vv14 W6 hh14=>?_
   obtain ⟨hv14,e6⟩:=hh14
   have x6:Ext w W6:=Ext.tr xx1 e6
   obtain ⟨us,has,hU⟩:=hv14
   obtain ⟨gO,cO,cuO,hvO,lgO,rO6,-,hcO,-⟩:=hU.opens (by have:=has.1; omega)
   subst hvO
   have hM:us.length=ts.length:=has.1
   rw [hM] at hU hcO ⊢
   have bgO:w.heap.size≤gO:=qT xx1.size lgO
   refine Qaa (.slice (some ⟨gO,0,none⟩) ts.length cO) 8 rfl kj kj ?_
   refine Qae ?_
   refine hK13 _ _ ?_
   refine wp_seq_k fun K16 hK16=>?_
   refine wp_block ?_
   refine Qaz (fun (s2:Nat)=>[(0,.slice a_t ts.length c_t),(3,.pointer (some ⟨g2,0,none⟩)),(7,.int .i64 ((m:Nat):Int)),(8,.slice (some ⟨gO,0,none⟩) ts.length cO)]) (fun (s2:Nat) W=>(s2=0)∧(Ext W6 W)∧(Ext w W)) (fun (s2:Nat)=>0) 0 ⟨rfl,rfl,rfl,rfl,trivial⟩ ⟨rfl,(Rely.Ext.refl W6),x6⟩ fun s2 X2 V2 hI2=>?_
   obtain ⟨q,hs2⟩:∃ z,z=s2:=⟨_,rfl⟩
   subst hs2
   obtain ⟨hq0,kk2,xx2⟩:=hI2
   replace hq0:q=0:=hq0
   replace kk2:Ext W6 V2:=kk2
   replace xx2:Ext w V2:=xx2
   have e7:=kk2
   refine wp_seq_k fun K17 hK17=>?_
   refine wp_seq_k fun K18 hK18=>?_
   refine Qab ?_
   refine Qaa (.slice (some ⟨gO,0,none⟩) ts.length cO) 47 rfl kj kj ?_
   refine Qaa (.int .i64 ((ts.length:Nat):Int)) 48 rfl kj kj ?_
   refine Qaa (.int .i64 ((m:Nat):Int)) 49 rfl kj kj ?_
   refine Qaa (.int .i64 (((2*m:Nat):Int))) 50 rfl kj (Qai (u:=.int .i64 (IntKind.i64.wrap (2*((m:Nat):Int)))) kj (congrArg (Value.int .i64) ((IntWalk.i64_in _ (by omega)).trans (by omega)))) ?_
   refine Qaa (.int .i64 (((2*m)+1:Nat):Int)) 51 rfl kj (Qai (u:=.int .i64 (IntKind.i64.wrap ((((2*m:Nat):Int))+1))) kj (congrArg (Value.int .i64) (i64n _ _ (by omega) (by omega)))) ?_
   refine Qaa (.bool false) 52 rfl kj (Qai (u:=.bool (decide (((ts.length:Nat):Int)<(((2*m)+1:Nat):Int)))) kj (congrArg Value.bool (decide_eq_false (by omega)))) ?_
   refine Qae ?_
   refine hK18 _ _ ?_
   refine cond_false kj ?_
   refine wp_exit ?_
   refine hK16 _ _ ?_
   refine wp_seq_k fun K19 hK19=>?_
   refine Qab ?_
   refine Qaa (.slice (some ⟨gO,0,none⟩) ts.length cO) 64 rfl kj kj ?_
   refine Qaa (.int .i64 ((m:Nat):Int)) 65 rfl kj kj ?_
   refine Qaa (.int .i64 (((2*m:Nat):Int))) 66 rfl kj (Qai (u:=.int .i64 (IntKind.i64.wrap (2*((m:Nat):Int)))) kj (congrArg (Value.int .i64) ((IntWalk.i64_in _ (by omega)).trans (by omega)))) ?_
   have r2_4:=(Qah r2_3 e4)
   have r2_5:=(Qah r2_4 e5)
   have r2_6:=(Qah r2_5 e6)
   have r2_7:=(Qah r2_6 e7)
   refine Qaa (.agg (cat [#[.bool nd.n.us],#[.int .i64 nd.n.nm],ints .u8 (nd.n.key),ints .u8 (nd.n.sg),ints .u8 (nd.n.pa),#[.slice nd.a nd.n.ms.length nd.c]])) 67 rfl kj (Qa9 41 _ g2 41 _ _ r2_7 rfl kj kj (isz (n:=99) kj (by rw [Qac,Qac,Qac,Qac,Qac,Qac]; simp only [qS,cat,((Qaf _ _).trans hok.gl),((Qaf _ _).trans hok.kl),((Qaf _ _).trans hok.pl)]; rfl))) ?_
   refine Qaa (.pointer (some ⟨gO,0+(2*m)*99,none⟩)) 68 rfl kj (Qa6 23 _ _ .i64 (2*m) gO 0 ts.length cO 41 99 rfl kj kj kj kj (by omega)) ?_
   refine QeO 41 _ _ gO (2*m) cO (n:=nd) hM (OwH.ext hU e7) (by omega) hok rfl kj kj kj rfl kj fun W8 p8 hV0=>?_
   have x8:Ext w W8:=Puts.ext p8 xx2 bgO
   obtain ⟨-,cuV0,rV8⟩:=hV0.rowBlock (g:=gO) rfl
   refine Qae ?_
   refine hK19 _ _ ?_
   refine wp_seq_k fun K20 hK20=>?_
   refine Qab ?_
   refine Qaa (.int .i64 ((m:Nat):Int)) 69 rfl kj kj ?_
   refine Qaa (.int .i64 (2*((m:Nat):Int))) 70 rfl kj (Qai (u:=.int .i64 (IntKind.i64.wrap (2*((m:Nat):Int)))) kj (congrArg (Value.int .i64) (IntWalk.i64_in _ (by omega)))) ?_
   refine Qaa (.slice (some ⟨gO,0,none⟩) ts.length cO) 71 rfl kj kj ?_
   refine Qaa (.int .i64 ((ts.length:Nat):Int)) 72 rfl kj kj ?_
   refine Qal (.int .i64 ((L:Nat):Int)) 32 #[.int .i64 ((ts.length:Nat):Int)] 73 rfl kj kj (Qcr ((ts.length:Nat):Int) _ (QbE htl hL) _) fun W9 e9=>?_
   have x9:Ext w W9:=Ext.tr x8 e9
   refine Qa7 (fun v W'=>(OwnN .i64 3 W9.heap.size (upL (2*((m:Nat):Int)) ((L:Nat):Int) K)) v W'∧Ext W9 W') 54 #[.int .i64 (2*((m:Nat):Int)),.int .i64 ((L:Nat):Int)] 74 rfl kj kj ((Qh5 (2*((m:Nat):Int)) ((L:Nat):Int) K hK hneg hall _).mono (by rintro e w' ⟨v,rfl,e1,hv⟩; exact ⟨v,rfl,hv,e1⟩)) fun vv21 W10 hh21=>?_
   obtain ⟨hv21,e10⟩:=hh21
   have x10:Ext w W10:=Ext.tr x9 e10
   have r15_9:=(Qah rV8 e9)
   have nbp:Value.ownBlock vv21≠some gO:=OwnN.nb hv21 (QaB r15_9)
   have hrp:=OwnN.rd hv21
   obtain ⟨ap,cp,hvp,-⟩:=id hrp
   subst hvp
   refine Qaa (.slice ap ((upL (2*((m:Nat):Int)) ((L:Nat):Int) K).length) cp) 11 rfl kj kj ?_
   refine Qae ?_
   refine hK20 _ _ ?_
   refine wp_seq_k fun K22 hK22=>?_
   refine wp_seq_k fun K23 hK23=>?_
   refine Qab ?_
   refine Qaa (.int .i64 0) 12 rfl kj kj ?_
   refine Qae ?_
   refine hK23 _ _ ?_
   refine wp_block ?_
   have y8_9:Ext W8 W9:=(Rely.Ext.trans (Rely.Ext.refl W8) e9)
   have y8_10:Ext W8 W10:=(Rely.Ext.trans y8_9 e10)
   refine Qaz (fun (s3:Nat×List NdV)=>[(7,.int .i64 ((m:Nat):Int)),(8,.slice (some ⟨gO,0,none⟩) ts.length cO),(11,.slice ap ((upL (2*((m:Nat):Int)) ((L:Nat):Int) K).length) cp),(12,.int .i64 ((s3.1:Nat):Int))]) (fun (s3:Nat×List NdV) W=>(s3.1≤(upL (2*((m:Nat):Int)) ((L:Nat):Int) K).length)∧(s3.2.length=ts.length)∧(AsC s3.2 (insL (us.set (2*m) nd) (2*((m:Nat):Int)) ((L:Nat):Int) ((m:Nat):Int) (List.range s3.1)))∧(ndi s3.2 (2*m)=nd)∧(OwH V1.heap.size s3.2 (.slice (some ⟨gO,0,none⟩) ts.length cO) W (some (2*m)))∧(QaQ [gO] W10 W)∧(Ext w W)) (fun (s3:Nat×List NdV)=>(upL (2*((m:Nat):Int)) ((L:Nat):Int) K).length-s3.1) (0,(us.set (2*m) nd)) ⟨rfl,rfl,rfl,rfl,trivial⟩ ⟨(Nat.zero_le _),((List.length_set ..).trans hM),(AsC.refl _),(by rw [QaC nd (by omega),if_pos rfl]),(OwH.ext hV0 y8_10),(QaQ.refl [gO] W10),x10⟩ fun s3 X3 V3 hI3=>?_
   obtain ⟨k,vs⟩:=s3
   obtain ⟨hk,hvl,hvc,hh2,hV,kk3,xx3⟩:=hI3
   replace hk:k≤(upL (2*((m:Nat):Int)) ((L:Nat):Int) K).length:=hk
   replace hvl:vs.length=ts.length:=hvl
   replace hvc:AsC vs (insL (us.set (2*m) nd) (2*((m:Nat):Int)) ((L:Nat):Int) ((m:Nat):Int) (List.range k)):=hvc
   replace hh2:ndi vs (2*m)=nd:=hh2
   replace hV:OwH V1.heap.size vs (.slice (some ⟨gO,0,none⟩) ts.length cO) V3 (some (2*m)):=hV
   replace kk3:QaQ [gO] W10 V3:=kk3
   replace xx3:Ext w V3:=xx3
   have q11:=kk3
   obtain ⟨-,cuV,rOv⟩:=hV.rowBlock (g:=gO) rfl
   refine wp_seq_k fun K24 hK24=>?_
   refine wp_seq_k fun K25 hK25=>?_
   refine Qab ?_
   refine Qaa (.int .i64 ((k:Nat):Int)) 75 rfl kj kj ?_
   refine Qaa (.slice ap ((upL (2*((m:Nat):Int)) ((L:Nat):Int) K).length) cp) 76 rfl kj kj ?_
   refine Qaa (.int .i64 (((upL (2*((m:Nat):Int)) ((L:Nat):Int) K).length:Nat):Int)) 77 rfl kj kj ?_
   refine Qaa (.bool (decide (((k:Nat):Int)<(((upL (2*((m:Nat):Int)) ((L:Nat):Int) K).length:Nat):Int)))) 78 rfl kj kj ?_
   refine Qae ?_
   refine hK25 _ _ ?_
   refine Qat (t:=decide (((k:Nat):Int)<(((upL (2*((m:Nat):Int)) ((L:Nat):Int) K).length:Nat):Int))) kj (fun c26=>?_) (fun c26=>?_)
   ·skip
    have hlt78:k<(upL (2*((m:Nat):Int)) ((L:Nat):Int) K).length:=by have:=of_decide_eq_true c26; omega
    have f28_11:=(OwnN.keepsL hv21 q11 (QfV nbp QhP))
    have hnx_27:(upL (2*((m:Nat):Int)) ((L:Nat):Int) K).length=(upL (2*((m:Nat):Int)) ((L:Nat):Int) K).length:=rfl
    obtain ⟨gcx_27,ocx_27,hax_27,hlx_27,hcx_27⟩:=QaZ (OwnN.rd f28_11) (by rw [hnx_27]; omega)
    have hkK:k<K:=by rw [QcM] at hlt78; exact hlt78
    have hk0:=hall k hkK
    obtain ⟨u,hu⟩:∃ u,u=upN (2*((m:Nat):Int)) ((L:Nat):Int) k:=⟨_,rfl⟩
    have hue:=Qb8 hk0
    rw [←hu] at hue
    have huo:=QcL hk0
    have hul:=Qdz (x:=2*((m:Nat):Int)) k hTr
    rw [←hu] at hul
    have hnu:nth (upL (2*((m:Nat):Int)) ((L:Nat):Int) K) k=((u:Nat):Int):=(QfL hkK).trans hue.symm
    have hnt:=OwH.nodeH hvl hV (x:=u) (by omega) (by omega)
    obtain ⟨nt,ent⟩:∃ z,z=ndi vs u:=⟨_,rfl⟩
    rw [←ent] at hnt
    have okt:=hnt.ok
    obtain ⟨hpn,hpd⟩:=Qgy (Qei hTr (show (0:Int)≤((m:Nat):Int) by omega) (show ((m:Nat):Int)<((L:Nat):Int) by omega)) (show k<6 by omega) (fun i hi=>hall i (by omega))
    have hcu:nt.n=(ndi ts u).n:=by
     rw [ent,hvc.all u,Qfc _ _ (fun z _=>by rw [List.length_set,hM]; exact QhE hTr (by omega) z) hpd,if_neg (fun q=>hpn (by rw [←hu]; exact q.1)),QaC nd (by omega),if_neg (show u≠2*m by omega)]; exact has.all u
    have hil:upN (2*((m:Nat):Int)) ((L:Nat):Int) k<(insL (us.set (2*m) nd) (2*((m:Nat):Int)) ((L:Nat):Int) ((m:Nat):Int) (List.range k)).length:=by rw [Qby,List.length_set,hM,←hu]; omega
    refine wp_skip ?_
    refine hK24 _ _ ?_
    refine wp_seq_k fun K29 hK29=>?_
    refine wp_block ?_
    refine wp_seq_k fun K30 hK30=>?_
    refine wp_seq_k fun K31 hK31=>?_
    rcases (show nt.n.us=true∨nt.n.us=false from by cases nt.n.us; exact .inr rfl; exact .inl rfl) with hq | hq
    ·skip
     have hnx_32:(upL (2*((m:Nat):Int)) ((L:Nat):Int) K).length=(upL (2*((m:Nat):Int)) ((L:Nat):Int) K).length:=rfl
     obtain ⟨gcx_32,ocx_32,hax_32,hlx_32,hcx_32⟩:=QaZ (OwnN.rd f28_11) (by rw [hnx_32]; omega)
     have hmp:=F.ms_lt (x:=u) (by omega) (by omega) (hcu▸hq)
     rw [←hcu] at hmp
     have hmn:((m:Nat):Int)∉nt.n.ms:=fun q=>by have h9:=(hmp.2 _ q).2.2; rw [Int.toNat_natCast,hfm] at h9; cases h9
     have hntm:nt.n.ms.length≤900:=by rw [hcu]; exact hm9 u (by omega)
     refine Qab ?_
     refine Qaa (.slice (some ⟨gO,0,none⟩) ts.length cO) 81 rfl kj kj ?_
     refine Qaa (.slice ap ((upL (2*((m:Nat):Int)) ((L:Nat):Int) K).length) cp) 82 rfl kj kj ?_
     refine Qaa (.int .i64 ((k:Nat):Int)) 83 rfl kj kj ?_
     refine Qaa (.pointer (some ⟨gcx_32,ocx_32+k,none⟩)) 84 rfl kj (QaA 36 _ _ .i64 k gcx_32 ocx_32 ((upL (2*((m:Nat):Int)) ((L:Nat):Int) K).length) cp 3 ap _ hax_32 rfl rfl kj kj kj kj (Nat.lt_of_lt_of_eq (show k<(upL (2*((m:Nat):Int)) ((L:Nat):Int) K).length by omega) hnx_32.symm)) ?_
     refine Qaa (.int .i64 ((u:Nat):Int)) 85 rfl kj (by rw [←hnu]; exact (Qaj 3 _ _ (.int .i64 (nth (upL (2*((m:Nat):Int)) ((L:Nat):Int) K) (k))) (hcx_32 k (Nat.lt_of_lt_of_eq (show k<(upL (2*((m:Nat):Int)) ((L:Nat):Int) K).length by omega) hnx_32.symm)) rfl kj kj)) ?_
     refine Qaa (.pointer (some ⟨gO,0+u*99,none⟩)) 86 rfl kj (Qa6 23 _ _ .i64 u gO 0 ts.length cO 41 99 rfl kj kj kj kj (by omega)) ?_
     refine Qaa (.pointer (some ⟨gO,0+u*99,none⟩)) 87 rfl kj kj ?_
     refine Qaa (.bool true) 88 rfl kj (Qaj 4 _ _ (.bool true) ((NdAt.at3 hnt).1.trans (congrArg (fun z=>some (Value.bool z)) hq)) rfl kj kj) ?_
     refine Qaa (.bool false) 89 rfl kj kj ?_
     refine Qae ?_
     refine hK31 _ _ ?_
     refine cond_false kj ?_
     refine wp_skip ?_
     refine hK30 _ _ ?_
     refine wp_seq_k fun K33 hK33=>?_
     refine Qab ?_
     refine Qaa (.slice none 0 0) 13 rfl kj kj ?_
     refine Qae ?_
     refine hK33 _ _ ?_
     refine wp_seq_k fun K34 hK34=>?_
     refine wp_seq_k fun K35 hK35=>?_
     refine Qab ?_
     refine Qaa (.int .i64 0) 14 rfl kj kj ?_
     refine Qae ?_
     refine hK35 _ _ ?_
     refine wp_block ?_
     refine Qaz (fun (s4:Nat×Value)=>[(7,.int .i64 ((m:Nat):Int)),(8,.slice (some ⟨gO,0,none⟩) ts.length cO),(11,.slice ap ((upL (2*((m:Nat):Int)) ((L:Nat):Int) K).length) cp),(12,.int .i64 ((k:Nat):Int)),(13,s4.2),(14,.int .i64 ((s4.1:Nat):Int))]) (fun (s4:Nat×Value) W=>(s4.1≤32)∧(OwnN .i64 3 V3.heap.size (wl (Qcb nt.n.ms m s4.1)) s4.2 W)∧(Below V3.heap.size V3 W)∧(Ext w W)) (fun (s4:Nat×Value)=>32-s4.1) (0,(.slice none 0 0)) ⟨rfl,rfl,rfl,rfl,rfl,rfl,trivial⟩ ⟨(Nat.zero_le _),(QcG _ _ _ _),(RowKit.Below.refl _ V3),xx3⟩ fun s4 X4 V4 hI4=>?_
     obtain ⟨j,uu⟩:=s4
     obtain ⟨hj,huu,kk4,xx4⟩:=hI4
     replace hj:j≤32:=hj
     replace huu:OwnN .i64 3 V3.heap.size (wl (Qcb nt.n.ms m j)) uu V4:=huu
     replace kk4:Below V3.heap.size V3 V4:=kk4
     replace xx4:Ext w V4:=xx4
     have l12:=kk4
     refine wp_seq_k fun K36 hK36=>?_
     refine wp_seq_k fun K37 hK37=>?_
     refine Qab ?_
     refine Qaa (.int .i64 ((j:Nat):Int)) 90 rfl kj kj ?_
     refine Qaa (.bool (decide (((j:Nat):Int)<32))) 91 rfl kj kj ?_
     refine Qae ?_
     refine hK37 _ _ ?_
     refine Qat (t:=decide (((j:Nat):Int)<32)) kj (fun c38=>?_) (fun c38=>?_)
     ·skip
      have hlt91:j<32:=by have:=of_decide_eq_true c38; omega
      refine wp_skip ?_
      refine hK36 _ _ ?_
      refine wp_seq_k fun K39 hK39=>?_
      refine wp_block ?_
      refine wp_seq_k fun K40 hK40=>?_
      have y11_12:Ext V3 V4:=(Ext.low (Rely.Ext.refl V3) l12 (Rely.Ext.refl V3).size)
      have hnj:=NdAt.ext hnt y11_12
      have f42_12:=(OwnN.low (n:=0) f28_11 f28_11 l12)
      have hnx_41:(upL (2*((m:Nat):Int)) ((L:Nat):Int) K).length=(upL (2*((m:Nat):Int)) ((L:Nat):Int) K).length:=rfl
      obtain ⟨gcx_41,ocx_41,hax_41,hlx_41,hcx_41⟩:=QaZ (OwnN.rd f42_12) (by rw [hnx_41]; omega)
      rcases (show j=m∨(j≠m∧((j:Nat):Int)∈nt.n.ms)∨(j≠m∧((j:Nat):Int)∉nt.n.ms) from by by_cases h8:j=m; exact .inl h8; by_cases h7:((j:Nat):Int)∈nt.n.ms; exact .inr (.inl ⟨h8,h7⟩); exact .inr (.inr ⟨h8,h7⟩)) with hqj | hqj | hqj
      ·skip
       refine Qab ?_
       refine Qaa (.int .i64 ((j:Nat):Int)) 94 rfl kj kj ?_
       refine Qaa (.int .i64 ((m:Nat):Int)) 95 rfl kj kj ?_
       refine Qaa (.bool true) 96 rfl kj (Qai (u:=.bool ((((j:Nat):Int)==((m:Nat):Int)))) kj (congrArg Value.bool (beq_iff_eq.2 (by omega)))) ?_
       refine Qaa (.bool true) 97 rfl kj kj ?_
       refine Qad 98 rfl kj ?_
       refine Qad 99 rfl kj ?_
       refine Qad 100 rfl kj ?_
       refine Qad 101 rfl kj ?_
       refine Qad 102 rfl kj ?_
       refine Qad 103 rfl kj ?_
       refine Qad 104 rfl kj ?_
       refine Qad 105 rfl kj ?_
       refine Qad 106 rfl kj ?_
       refine Qad 107 rfl kj ?_
       refine Qaa (.bool true) 108 rfl kj kj ?_
       refine Qae ?_
       refine hK40 _ _ ?_
       refine cond_true kj ?_
       refine Qab ?_
       refine Qaa (uu) 109 rfl kj kj ?_
       refine Qaa (.int .i64 ((j:Nat):Int)) 110 rfl kj kj ?_
       refine Qbw (ints .i64 ([((j:Nat):Int)])) 3 1 111 rfl kj kj fun g43 W13 l43 e13 r43_13=>?_
       have x13:Ext w W13:=Ext.tr xx4 e13
       have b43:w.heap.size≤g43:=qT xx4.size l43
       have f44_13:=(huu.ext e13)
       have y11_13:Ext V3 W13:=(Rely.Ext.trans y11_12 e13)
       refine Qbz (k:=.i64) (T:=3) (xs:=wl (Qcb nt.n.ms m j)) (ys:=[((j:Nat):Int)]) (V:=V3) 8 (.tmp 109) (.tmp 111) 36 rfl kj kj (by decide) 112 rfl kj kj kj f44_13 (QcX (xs:=[((j:Nat):Int)]) (n:=1) rfl r43_13 (QaB r43_13) (show 1≤maxLen from by decide)) (by have h9:=QdI nt.n.ms m j; rw [Qgh]; show (Qcb nt.n.ms m j).length+1≤1000000000; omega) y11_13 fun u2 W14 f45 y14 l14=>?_
       have x14:Ext w W14:=Ext.low x13 l14 xx3.size
       refine Qaa (u2) 13 rfl kj kj ?_
       refine Qae ?_
       refine hK39 _ _ ?_
       refine Qab ?_
       refine Qaa (.int .i64 ((j:Nat):Int)) 92 rfl kj kj ?_
       refine Qaa (.int .i64 ((j+1:Nat):Int)) 93 rfl kj (Qai (u:=.int .i64 (IntKind.i64.wrap (((j:Nat):Int)+1))) kj (congrArg (Value.int .i64) (i64n _ _ (by omega) (by omega)))) ?_
       refine Qaa (.int .i64 ((j+1:Nat):Int)) 14 rfl kj kj ?_
       refine Qae ?_
       repeat (first | with_reducible refine goX1 ?_ | with_reducible refine goX2 ?_ | with_reducible refine goX3 ?_)
       exact Qas ((j+1),u2) ⟨rfl,rfl,rfl,rfl,rfl,rfl,trivial⟩ ⟨(by omega),(by rw [QdH (.inl hqj),Qgi]; exact f45),(RowKit.Below.trans (RowKit.Below.trans l12 (RowKit.Below.mono e13 y11_12.size)) l14),x14⟩ (by show 32-(j+1)<32-j; omega)
      ·skip
       refine Qab ?_
       refine Qaa (.int .i64 ((j:Nat):Int)) 94 rfl kj kj ?_
       refine Qaa (.int .i64 ((m:Nat):Int)) 95 rfl kj kj ?_
       refine Qaa (.bool false) 96 rfl kj (Qai (u:=.bool ((((j:Nat):Int)==((m:Nat):Int)))) kj (congrArg Value.bool (beq_eq_false_iff_ne.2 (by omega)))) ?_
       refine Qaa (.bool false) 97 rfl kj kj ?_
       refine Qaa (.int .i64 ((j:Nat):Int)) 98 rfl kj kj ?_
       refine Qaa (.slice (some ⟨gO,0,none⟩) ts.length cO) 99 rfl kj kj ?_
       refine Qaa (.slice ap ((upL (2*((m:Nat):Int)) ((L:Nat):Int) K).length) cp) 100 rfl kj kj ?_
       refine Qaa (.int .i64 ((k:Nat):Int)) 101 rfl kj kj ?_
       refine Qaa (.pointer (some ⟨gcx_41,ocx_41+k,none⟩)) 102 rfl kj (QaA 36 _ _ .i64 k gcx_41 ocx_41 ((upL (2*((m:Nat):Int)) ((L:Nat):Int) K).length) cp 3 ap _ hax_41 rfl rfl kj kj kj kj (Nat.lt_of_lt_of_eq (show k<(upL (2*((m:Nat):Int)) ((L:Nat):Int) K).length by omega) hnx_41.symm)) ?_
       refine Qaa (.int .i64 ((u:Nat):Int)) 103 rfl kj (by rw [←hnu]; exact (Qaj 3 _ _ (.int .i64 (nth (upL (2*((m:Nat):Int)) ((L:Nat):Int) K) (k))) (hcx_41 k (Nat.lt_of_lt_of_eq (show k<(upL (2*((m:Nat):Int)) ((L:Nat):Int) K).length by omega) hnx_41.symm)) rfl kj kj)) ?_
       refine Qaa (.pointer (some ⟨gO,0+u*99,none⟩)) 104 rfl kj (Qa6 23 _ _ .i64 u gO 0 ts.length cO 41 99 rfl kj kj kj kj (by omega)) ?_
       refine Qaa (.pointer (some ⟨gO,0+u*99+98,none⟩)) 105 rfl kj kj ?_
       refine Qaa (.slice nt.a nt.n.ms.length nt.c) 106 rfl kj (Qaj 36 _ _ (.slice nt.a nt.n.ms.length nt.c) (NdAt.at3 hnj).2.2 rfl kj kj) ?_
       refine Qal (.bool true) 34 #[.int .i64 ((j:Nat):Int),.slice nt.a nt.n.ms.length nt.c] 107 rfl kj kj (inRb nt.n.ms ((j:Nat):Int) nt.a nt.c _ _ (qT hntm (by decide)) (RdK.here (RdK.ext hnj.rd (Rely.Ext.refl V4))) true (decide_eq_true hqj.2)) fun W13 e13=>?_
       have x13:Ext w W13:=Ext.tr xx4 e13
       refine Qaa (.bool true) 108 rfl kj kj ?_
       refine Qae ?_
       refine hK40 _ _ ?_
       refine cond_true kj ?_
       refine Qab ?_
       refine Qaa (uu) 109 rfl kj kj ?_
       refine Qaa (.int .i64 ((j:Nat):Int)) 110 rfl kj kj ?_
       refine Qbw (ints .i64 ([((j:Nat):Int)])) 3 1 111 rfl kj kj fun g46 W14 l46 e14 r46_14=>?_
       have x14:Ext w W14:=Ext.tr x13 e14
       have b46:w.heap.size≤g46:=qT x13.size l46
       have f47_13:=(huu.ext e13)
       have f48_14:=(f47_13.ext e14)
       have y11_13:Ext V3 W13:=(Rely.Ext.trans y11_12 e13)
       have y11_14:Ext V3 W14:=(Rely.Ext.trans y11_13 e14)
       refine Qbz (k:=.i64) (T:=3) (xs:=wl (Qcb nt.n.ms m j)) (ys:=[((j:Nat):Int)]) (V:=V3) 8 (.tmp 109) (.tmp 111) 36 rfl kj kj (by decide) 112 rfl kj kj kj f48_14 (QcX (xs:=[((j:Nat):Int)]) (n:=1) rfl r46_14 (QaB r46_14) (show 1≤maxLen from by decide)) (by have h9:=QdI nt.n.ms m j; rw [Qgh]; show (Qcb nt.n.ms m j).length+1≤1000000000; omega) y11_14 fun u2 W15 f49 y15 l15=>?_
       have x15:Ext w W15:=Ext.low x14 l15 xx3.size
       refine Qaa (u2) 13 rfl kj kj ?_
       refine Qae ?_
       refine hK39 _ _ ?_
       refine Qab ?_
       refine Qaa (.int .i64 ((j:Nat):Int)) 92 rfl kj kj ?_
       refine Qaa (.int .i64 ((j+1:Nat):Int)) 93 rfl kj (Qai (u:=.int .i64 (IntKind.i64.wrap (((j:Nat):Int)+1))) kj (congrArg (Value.int .i64) (i64n _ _ (by omega) (by omega)))) ?_
       refine Qaa (.int .i64 ((j+1:Nat):Int)) 14 rfl kj kj ?_
       refine Qae ?_
       repeat (first | with_reducible refine goX1 ?_ | with_reducible refine goX2 ?_ | with_reducible refine goX3 ?_)
       exact Qas ((j+1),u2) ⟨rfl,rfl,rfl,rfl,rfl,rfl,trivial⟩ ⟨(by omega),(by rw [QdH (.inr hqj.2),Qgi]; exact f49),(RowKit.Below.trans (RowKit.Below.trans (RowKit.Below.trans l12 (RowKit.Below.mono e13 y11_12.size)) (RowKit.Below.mono e14 y11_13.size)) l15),x15⟩ (by show 32-(j+1)<32-j; omega)
      ·skip
       refine Qab ?_
       refine Qaa (.int .i64 ((j:Nat):Int)) 94 rfl kj kj ?_
       refine Qaa (.int .i64 ((m:Nat):Int)) 95 rfl kj kj ?_
       refine Qaa (.bool false) 96 rfl kj (Qai (u:=.bool ((((j:Nat):Int)==((m:Nat):Int)))) kj (congrArg Value.bool (beq_eq_false_iff_ne.2 (by omega)))) ?_
       refine Qaa (.bool false) 97 rfl kj kj ?_
       refine Qaa (.int .i64 ((j:Nat):Int)) 98 rfl kj kj ?_
       refine Qaa (.slice (some ⟨gO,0,none⟩) ts.length cO) 99 rfl kj kj ?_
       refine Qaa (.slice ap ((upL (2*((m:Nat):Int)) ((L:Nat):Int) K).length) cp) 100 rfl kj kj ?_
       refine Qaa (.int .i64 ((k:Nat):Int)) 101 rfl kj kj ?_
       refine Qaa (.pointer (some ⟨gcx_41,ocx_41+k,none⟩)) 102 rfl kj (QaA 36 _ _ .i64 k gcx_41 ocx_41 ((upL (2*((m:Nat):Int)) ((L:Nat):Int) K).length) cp 3 ap _ hax_41 rfl rfl kj kj kj kj (Nat.lt_of_lt_of_eq (show k<(upL (2*((m:Nat):Int)) ((L:Nat):Int) K).length by omega) hnx_41.symm)) ?_
       refine Qaa (.int .i64 ((u:Nat):Int)) 103 rfl kj (by rw [←hnu]; exact (Qaj 3 _ _ (.int .i64 (nth (upL (2*((m:Nat):Int)) ((L:Nat):Int) K) (k))) (hcx_41 k (Nat.lt_of_lt_of_eq (show k<(upL (2*((m:Nat):Int)) ((L:Nat):Int) K).length by omega) hnx_41.symm)) rfl kj kj)) ?_
       refine Qaa (.pointer (some ⟨gO,0+u*99,none⟩)) 104 rfl kj (Qa6 23 _ _ .i64 u gO 0 ts.length cO 41 99 rfl kj kj kj kj (by omega)) ?_
       refine Qaa (.pointer (some ⟨gO,0+u*99+98,none⟩)) 105 rfl kj kj ?_
       refine Qaa (.slice nt.a nt.n.ms.length nt.c) 106 rfl kj (Qaj 36 _ _ (.slice nt.a nt.n.ms.length nt.c) (NdAt.at3 hnj).2.2 rfl kj kj) ?_
       refine Qal (.bool false) 34 #[.int .i64 ((j:Nat):Int),.slice nt.a nt.n.ms.length nt.c] 107 rfl kj kj (inRb nt.n.ms ((j:Nat):Int) nt.a nt.c _ _ (qT hntm (by decide)) (RdK.here (RdK.ext hnj.rd (Rely.Ext.refl V4))) false (decide_eq_false hqj.2)) fun W13 e13=>?_
       have x13:Ext w W13:=Ext.tr xx4 e13
       refine Qaa (.bool false) 108 rfl kj kj ?_
       refine Qae ?_
       refine hK40 _ _ ?_
       refine cond_false kj ?_
       refine wp_skip ?_
       refine hK39 _ _ ?_
       refine Qab ?_
       refine Qaa (.int .i64 ((j:Nat):Int)) 92 rfl kj kj ?_
       refine Qaa (.int .i64 ((j+1:Nat):Int)) 93 rfl kj (Qai (u:=.int .i64 (IntKind.i64.wrap (((j:Nat):Int)+1))) kj (congrArg (Value.int .i64) (i64n _ _ (by omega) (by omega)))) ?_
       refine Qaa (.int .i64 ((j+1:Nat):Int)) 14 rfl kj kj ?_
       refine Qae ?_
       have f50_13:=(huu.ext e13)
       repeat (first | with_reducible refine goX1 ?_ | with_reducible refine goX2 ?_ | with_reducible refine goX3 ?_)
       exact Qas ((j+1),uu) ⟨rfl,rfl,rfl,rfl,rfl,rfl,trivial⟩ ⟨(by omega),(by rw [QhG hqj.1 hqj.2]; exact f50_13),(RowKit.Below.trans l12 (RowKit.Below.mono e13 y11_12.size)),x13⟩ (by show 32-(j+1)<32-j; omega)
     ·skip
      have heq91:j=32:=by have:=of_decide_eq_false c38; omega
      refine wp_exit ?_
      refine hK34 _ _ ?_
      have f52_12:=(OwnN.low (n:=0) f28_11 f28_11 l12)
      have hnx_51:(upL (2*((m:Nat):Int)) ((L:Nat):Int) K).length=(upL (2*((m:Nat):Int)) ((L:Nat):Int) K).length:=rfl
      obtain ⟨gcx_51,ocx_51,hax_51,hlx_51,hcx_51⟩:=QaZ (OwnN.rd f52_12) (by rw [hnx_51]; omega)
      skip
      ·skip
       refine Qab ?_
       refine Qaa (.slice (some ⟨gO,0,none⟩) ts.length cO) 113 rfl kj kj ?_
       refine Qaa (.slice ap ((upL (2*((m:Nat):Int)) ((L:Nat):Int) K).length) cp) 114 rfl kj kj ?_
       refine Qaa (.int .i64 ((k:Nat):Int)) 115 rfl kj kj ?_
       refine Qaa (.pointer (some ⟨gcx_51,ocx_51+k,none⟩)) 116 rfl kj (QaA 36 _ _ .i64 k gcx_51 ocx_51 ((upL (2*((m:Nat):Int)) ((L:Nat):Int) K).length) cp 3 ap _ hax_51 rfl rfl kj kj kj kj (Nat.lt_of_lt_of_eq (show k<(upL (2*((m:Nat):Int)) ((L:Nat):Int) K).length by omega) hnx_51.symm)) ?_
       refine Qaa (.int .i64 ((u:Nat):Int)) 117 rfl kj (by rw [←hnu]; exact (Qaj 3 _ _ (.int .i64 (nth (upL (2*((m:Nat):Int)) ((L:Nat):Int) K) (k))) (hcx_51 k (Nat.lt_of_lt_of_eq (show k<(upL (2*((m:Nat):Int)) ((L:Nat):Int) K).length by omega) hnx_51.symm)) rfl kj kj)) ?_
       refine Qaa (uu) 118 rfl kj kj ?_
       refine Qaa (.pointer (some ⟨gO,0+u*99,none⟩)) 119 rfl kj (Qa6 23 _ _ .i64 u gO 0 ts.length cO 41 99 rfl kj kj kj kj (by omega)) ?_
       refine Qaa (.pointer (some ⟨gO,0+u*99+98,none⟩)) 120 rfl kj kj ?_
       have y11_12:Ext V3 V4:=(Ext.low (Rely.Ext.refl V3) l12 (Rely.Ext.refl V3).size)
       have hV1:=OwH.ext hV y11_12
       have hl5:=huu
       rw [heq91,Qg4 hmp.1 (fun j hj=>⟨(hmp.2 j hj).1,(hmp.2 j hj).2.1⟩) (by omega) hmn] at hl5
       obtain ⟨a6,c6,hv6,-⟩:=id (OwnN.rd hl5)
       rw [hv6] at hl5
       have hlen6:(insA nt.n.ms (posI nt.n.ms ((m:Nat):Int)) ((m:Nat):Int)).length≤1000:=by rw [QcI (Qds _ _)]; omega
       have hn6:NdIn V1.heap.size V4 ⟨{ (ndi vs u).n with ms:=insA nt.n.ms (posI nt.n.ms ((m:Nat):Int)) ((m:Nat):Int) },a6,c6⟩:=⟨⟨(ent▸okt).kl,(ent▸okt).gl,(ent▸okt).pl,(ent▸okt).kb,(ent▸okt).gb,(ent▸okt).pb⟩,hlen6,OwnN.base (qT (qT (qT (qT (qT (qT (qT (qR _) e6.size) e7.size) (qE p8.2.2.2.1.symm)) e9.size) e10.size) (QaQ.size q11)) (qR _)) hl5⟩
       have ha6:∀ j,j<ts.length→j≠u→j≠2*m→∀ g,ob ⟨{ (ndi vs u).n with ms:=insA nt.n.ms (posI nt.n.ms ((m:Nat):Int)) ((m:Nat):Int) },a6,c6⟩=some g→ob (ndi vs j)≠some g:=fun j hj hju hjh g h1 h2=>by have h3:=OwnN.ge hl5 h1; have:=(hV.nd j (by omega) (by simpa using hjh)).lt h2; omega
       refine Qfv 36 _ _ (ms:=insA nt.n.ms (posI nt.n.ms ((m:Nat):Int)) ((m:Nat):Int)) (a':=a6) (c':=c6) hvl hV1 (by omega) (by omega) hn6 ha6 rfl kj hv6 kj rfl kj fun W13 p13 hV2=>?_
       have x13:Ext w W13:=Puts.ext p13 xx4 bgO
       refine Qae ?_
       refine hK29 _ _ ?_
       refine Qab ?_
       refine Qaa (.int .i64 ((k:Nat):Int)) 79 rfl kj kj ?_
       refine Qaa (.int .i64 ((k+1:Nat):Int)) 80 rfl kj (Qai (u:=.int .i64 (IntKind.i64.wrap (((k:Nat):Int)+1))) kj (congrArg (Value.int .i64) (i64n _ _ (by omega) (by omega)))) ?_
       refine Qaa (.int .i64 ((k+1:Nat):Int)) 12 rfl kj kj ?_
       refine Qae ?_
       repeat (first | with_reducible refine goX1 ?_ | with_reducible refine goX2 ?_ | with_reducible refine goX3 ?_)
       exact Qas ((k+1),(vs.set u ⟨{ (ndi vs u).n with ms:=insA nt.n.ms (posI nt.n.ms ((m:Nat):Int)) ((m:Nat):Int) },a6,c6⟩)) ⟨rfl,rfl,rfl,rfl,trivial⟩ ⟨(by omega),((List.length_set ..).trans hvl),(by rw [List.range_succ,Qce,ent]; have:=AsC.step (i:=((m:Nat):Int)) (a:=a6) (c:=c6) hvc hil (by rw [←hu,←ent]; exact hq); rw [←hu] at this; exact this),(by rw [QaC _ (by omega),if_neg (by omega)]; exact hh2),hV2,(QaQ.puts (QaQ.low q11 l12 (qT (QaQ.size q11) (qR _))) p13 (.inl (by simp))),x13⟩ (by show (upL (2*((m:Nat):Int)) ((L:Nat):Int) K).length-(k+1)<(upL (2*((m:Nat):Int)) ((L:Nat):Int) K).length-k; omega)
    ·skip
     have hnx_53:(upL (2*((m:Nat):Int)) ((L:Nat):Int) K).length=(upL (2*((m:Nat):Int)) ((L:Nat):Int) K).length:=rfl
     obtain ⟨gcx_53,ocx_53,hax_53,hlx_53,hcx_53⟩:=QaZ (OwnN.rd f28_11) (by rw [hnx_53]; omega)
     refine Qab ?_
     refine Qaa (.slice (some ⟨gO,0,none⟩) ts.length cO) 81 rfl kj kj ?_
     refine Qaa (.slice ap ((upL (2*((m:Nat):Int)) ((L:Nat):Int) K).length) cp) 82 rfl kj kj ?_
     refine Qaa (.int .i64 ((k:Nat):Int)) 83 rfl kj kj ?_
     refine Qaa (.pointer (some ⟨gcx_53,ocx_53+k,none⟩)) 84 rfl kj (QaA 36 _ _ .i64 k gcx_53 ocx_53 ((upL (2*((m:Nat):Int)) ((L:Nat):Int) K).length) cp 3 ap _ hax_53 rfl rfl kj kj kj kj (Nat.lt_of_lt_of_eq (show k<(upL (2*((m:Nat):Int)) ((L:Nat):Int) K).length by omega) hnx_53.symm)) ?_
     refine Qaa (.int .i64 ((u:Nat):Int)) 85 rfl kj (by rw [←hnu]; exact (Qaj 3 _ _ (.int .i64 (nth (upL (2*((m:Nat):Int)) ((L:Nat):Int) K) (k))) (hcx_53 k (Nat.lt_of_lt_of_eq (show k<(upL (2*((m:Nat):Int)) ((L:Nat):Int) K).length by omega) hnx_53.symm)) rfl kj kj)) ?_
     refine Qaa (.pointer (some ⟨gO,0+u*99,none⟩)) 86 rfl kj (Qa6 23 _ _ .i64 u gO 0 ts.length cO 41 99 rfl kj kj kj kj (by omega)) ?_
     refine Qaa (.pointer (some ⟨gO,0+u*99,none⟩)) 87 rfl kj kj ?_
     refine Qaa (.bool false) 88 rfl kj (Qaj 4 _ _ (.bool false) ((NdAt.at3 hnt).1.trans (congrArg (fun z=>some (Value.bool z)) hq)) rfl kj kj) ?_
     refine Qaa (.bool true) 89 rfl kj kj ?_
     refine Qae ?_
     refine hK31 _ _ ?_
     refine cond_true kj ?_
     refine wp_exit ?_
     refine hK29 _ _ ?_
     refine Qab ?_
     refine Qaa (.int .i64 ((k:Nat):Int)) 79 rfl kj kj ?_
     refine Qaa (.int .i64 ((k+1:Nat):Int)) 80 rfl kj (Qai (u:=.int .i64 (IntKind.i64.wrap (((k:Nat):Int)+1))) kj (congrArg (Value.int .i64) (i64n _ _ (by omega) (by omega)))) ?_
     refine Qaa (.int .i64 ((k+1:Nat):Int)) 12 rfl kj kj ?_
     refine Qae ?_
     repeat (first | with_reducible refine goX1 ?_ | with_reducible refine goX2 ?_ | with_reducible refine goX3 ?_)
     exact Qas ((k+1),vs) ⟨rfl,rfl,rfl,rfl,trivial⟩ ⟨(by omega),hvl,(by rw [List.range_succ,Qce]; exact hvc.stay hil (by rw [←hu,←ent]; exact hq)),hh2,(OwH.ext hV (Rely.Ext.refl V3)),q11,xx3⟩ (by show (upL (2*((m:Nat):Int)) ((L:Nat):Int) K).length-(k+1)<(upL (2*((m:Nat):Int)) ((L:Nat):Int) K).length-k; omega)
   ·skip
    have heq78:k=(upL (2*((m:Nat):Int)) ((L:Nat):Int) K).length:=by have:=of_decide_eq_false c26; omega
    refine wp_exit ?_
    refine hK22 _ _ ?_
    refine wp_seq_k fun K54 hK54=>?_
    refine Qab ?_
    refine Qaa (.slice (some ⟨gO,0,none⟩) ts.length cO) 121 rfl kj kj ?_
    refine Qaa (.int .i64 ((m:Nat):Int)) 122 rfl kj kj ?_
    refine Qaa (.slice (some ⟨gO,0,none⟩) ts.length cO) 4 rfl kj kj ?_
    refine Qaa (.int .i64 ((m:Nat):Int)) 5 rfl kj kj ?_
    refine Qaa (.int .i64 0) 6 rfl kj kj ?_
    refine Qae ?_
    refine hK54 _ _ ?_
    refine wp_ret ?_
    repeat (first | with_reducible refine goR1 ?_ | with_reducible refine goR2 ?_)
    have hcE:AsC vs (insT (us.set (2*m) nd) (2*((m:Nat):Int)) ((L:Nat):Int) ((m:Nat):Int)):=by have h9:=hvc; rw [heq78,QcM,←QdY hK hneg hall] at h9; exact h9
    have hVf:=hV.low xx1.size
    have hms2:(ndi vs (2*m)).n.ms=[]:=by rw [hh2]; exact hms
    rw [←hvl] at hVf
    have hfr:=hVf.frE hms2 (by rw [hh2]; exact rdE hr0)
    rw [hvl] at hfr
    exact (show bodyPost _ _ _ .ret _ _ from ret3 (.slice (some ⟨gO,0,none⟩) ts.length cO) (.int .i64 ((m:Nat):Int)) (.int .i64 0) rfl (Qam kj) (Qam kj) (Qam kj) ⟨_,rfl,xx3,us,vs,has,(by unfold addT; rw [if_pos (by omega)]; exact hcE),_,rfl,hfr⟩)
end Go.Proofs.YtcmaolmofgmkhaaDoor.Te
end
section
namespace Go.Proofs.YtcmaolmofgmkhaaDoor.Te
open Go Go.RowKit
open Rely Auto Own Seat Sha
set_option maxRecDepth 100000 in
theorem Qlr (ts : List NdV) (a_t:Option Addr) (c_t B1:Nat) (w:World) (ht:TrAt B1 w a_t ts) (htl:ts.length≤100000) (hmt:∀ i,i<ts.length→(ndi ts i).n.ms.length≤1000) (nd:NdV) (hok:NdOk nd.n) (hc:chkT ts=true) (hs:QaO nd.n=true) (hf:QaG ts nd.n.nm<0) (L:Nat) (hL:leaves ((ts.length:Nat):Int)=((L:Nat):Int)) (hL3:L≤16) (hlen:ts.length+1=2*L) (hL1:1≤L) (T0:List NdV) (hT0:T0=ts++List.replicate (ts.length+1) zn) (F:Form T0 (2*L)) (m:Nat) (hmL:m=L) (hfu:∀ j,j<m→(ndi ts (2*j)).n.us=true) (hfm:(ndi T0 (2*m)).n.us=false) (hm9:∀ i,(ndi T0 i).n.ms.length≤900) (hms:nd.n.ms=[]) (B3:Nat) (hr0:RdK .i64 B3 [] (.slice nd.a 0 nd.c) w):Calls Tryd.prog 26 #[.slice a_t ts.length c_t,.agg (cat [#[.bool nd.n.us],#[.int .i64 nd.n.nm],ints .u8 (nd.n.key),ints .u8 (nd.n.sg),ints .u8 (nd.n.pa),#[.slice nd.a nd.n.ms.length nd.c]])] w (QbH w (fun v W=>∃ us vs,AsC us ts∧AsC vs (addT us m nd (2*L))∧∃ u,v=.tuple #[u,.int .i64 ((m:Nat):Int),.int .i64 0]∧FrT w.heap.size vs u W)):=by
 have hTr:=F.tr
 have hl0:T0.length=2*ts.length+1:=by rw [hT0,List.length_append,qZ]; omega
 have hL2:=Qcf (m:=2*ts.length+1) hTr (by omega)
 obtain ⟨K,hK,hneg,hall⟩:=Qhm (2*((m:Nat):Int)) ((2*L:Nat):Int)
 refine enter 123 [(0,.slice a_t ts.length c_t),(1,.agg (cat [#[.bool nd.n.us],#[.int .i64 nd.n.nm],ints .u8 (nd.n.key),ints .u8 (nd.n.sg),ints .u8 (nd.n.pa),#[.slice nd.a nd.n.ms.length nd.c]]))] Tryd.func26 rfl rfl kj rfl ?_
 refine wp_seq_k fun K1 hK1=>?_
 refine Qab ?_
 refine Qap (cat [#[.bool nd.n.us],#[.int .i64 nd.n.nm],ints .u8 (nd.n.key),ints .u8 (nd.n.sg),ints .u8 (nd.n.pa),#[.slice nd.a nd.n.ms.length nd.c]]) 41 3 rfl kj kj fun g2 W1 l2 e1 r2_1=>?_
 have x1:Ext w W1:=Ext.tr (Rely.Ext.refl w) e1
 have b2:w.heap.size≤g2:=qT (Rely.Ext.refl w).size l2
 refine Qaa (.slice none 0 0) 4 rfl kj kj ?_
 refine Qaa (.int .i64 0) 5 rfl kj kj ?_
 refine Qaa (.int .i64 0) 6 rfl kj kj ?_
 refine Qae ?_
 refine hK1 _ _ ?_
 refine wp_seq_k fun K3 hK3=>?_
 refine wp_seq_k fun K4 hK4=>?_
 refine Qab ?_
 refine Qaa (.slice a_t ts.length c_t) 15 rfl kj kj ?_
 refine Qal (.bool true) 12 #[.slice a_t ts.length c_t] 16 rfl kj kj (Qeo ts a_t c_t _ _ (TrAt.ext ht x1) htl (fun i hi=>qT (hmt i hi) (by decide)) true hc) fun W2 e2=>?_
 have x2:Ext w W2:=Ext.tr x1 e2
 refine Qaa (.bool false) 17 rfl kj kj ?_
 refine Qaa (.bool false) 18 rfl kj kj ?_
 have r2_2:=(Qah r2_1 e2)
 refine Qaa (.agg (cat [#[.bool nd.n.us],#[.int .i64 nd.n.nm],ints .u8 (nd.n.key),ints .u8 (nd.n.sg),ints .u8 (nd.n.pa),#[.slice nd.a nd.n.ms.length nd.c]])) 19 rfl kj (Qa9 41 _ g2 41 _ _ r2_2 rfl kj kj (isz (n:=99) kj (by rw [Qac,Qac,Qac,Qac,Qac,Qac]; simp only [qS,cat,((Qaf _ _).trans hok.gl),((Qaf _ _).trans hok.kl),((Qaf _ _).trans hok.pl)]; rfl))) ?_
 refine Qal (.bool true) 43 #[.agg (cat [#[.bool nd.n.us],#[.int .i64 nd.n.nm],ints .u8 (nd.n.key),ints .u8 (nd.n.sg),ints .u8 (nd.n.pa),#[.slice nd.a nd.n.ms.length nd.c]])] 20 rfl kj kj ((hs▸Qe9 nd hok _)) fun W3 e3=>?_
 have x3:Ext w W3:=Ext.tr x2 e3
 refine Qaa (.bool false) 21 rfl kj kj ?_
 refine Qaa (.bool false) 22 rfl kj kj ?_
 refine Qae ?_
 refine hK4 _ _ ?_
 refine cond_false kj ?_
 refine wp_skip ?_
 refine hK3 _ _ ?_
 refine wp_seq_k fun K5 hK5=>?_
 refine wp_seq_k fun K6 hK6=>?_
 refine Qab ?_
 refine Qaa (.slice a_t ts.length c_t) 23 rfl kj kj ?_
 refine Qaa (.pointer (some ⟨g2,1,none⟩)) 24 rfl kj kj ?_
 have r2_3:=(Qah r2_2 e3)
 refine Qaa (.int .i64 nd.n.nm) 25 rfl kj (Qag 3 _ g2 1 41 _ (.int .i64 nd.n.nm) _ r2_3 rfl kj (Qak [#[.bool nd.n.us]] [#[.int .i64 nd.n.nm]] [ints .u8 (nd.n.key),ints .u8 (nd.n.sg),ints .u8 (nd.n.pa),#[.slice nd.a nd.n.ms.length nd.c]] 1 kj 0 _ rfl) kj) ?_
 refine Qal (.int .i64 (QaG ts nd.n.nm)) 17 #[.slice a_t ts.length c_t,.int .i64 nd.n.nm] 26 rfl kj kj (Qjf ts a_t c_t _ _ (TrAt.ext ht x3) htl nd.n.nm) fun W4 e4=>?_
 have x4:Ext w W4:=Ext.tr x3 e4
 refine Qaa (.bool false) 27 rfl kj (Qai (u:=.bool (decide ((QaG ts nd.n.nm)≥0))) kj (congrArg Value.bool (decide_eq_false (by omega)))) ?_
 refine Qae ?_
 refine hK6 _ _ ?_
 refine cond_false kj ?_
 refine wp_skip ?_
 refine hK5 _ _ ?_
 refine wp_seq_k fun K7 hK7=>?_
 refine Qab ?_
 refine Qaa (.int .i64 0) 7 rfl kj kj ?_
 refine Qae ?_
 refine hK7 _ _ ?_
 refine wp_seq_k fun K8 hK8=>?_
 refine wp_block ?_
 refine Qaz (fun (s1:Nat)=>[(0,.slice a_t ts.length c_t),(3,.pointer (some ⟨g2,0,none⟩)),(7,.int .i64 ((s1:Nat):Int))]) (fun (s1:Nat) W=>(s1≤m)∧(Ext W4 W)∧(Ext w W)) (fun (s1:Nat)=>m-s1) 0 ⟨rfl,rfl,rfl,trivial⟩ ⟨(Nat.zero_le _),(Rely.Ext.refl W4),x4⟩ fun s1 X1 V1 hI1=>?_
 obtain ⟨k,hs1⟩:∃ z,z=s1:=⟨_,rfl⟩
 subst hs1
 obtain ⟨hk,kk1,xx1⟩:=hI1
 replace hk:k≤m:=hk
 replace kk1:Ext W4 V1:=kk1
 replace xx1:Ext w V1:=xx1
 have e5:=kk1
 refine wp_seq_k fun K9 hK9=>?_
 refine wp_seq_k fun K10 hK10=>?_
 rcases (show k<m∨m=k by omega) with hq | hq
 ·skip
  obtain ⟨gyT,oyT,hay,hnys⟩:=TrAt.ext ht xx1
  have hny:=hnys (2*k) (by omega)
  obtain ⟨ny,eny⟩:∃ z,z=ndi ts (2*k):=⟨_,rfl⟩
  rw [←eny] at hny
  have oky:=hny.ok
  have rdy:=hny.rd
  have hyu:ny.n.us=true:=eny▸hfu k hq
  refine Qab ?_
  refine Qaa (.int .i64 ((k:Nat):Int)) 28 rfl kj kj ?_
  refine Qaa (.int .i64 (((2*k:Nat):Int))) 29 rfl kj (Qai (u:=.int .i64 (IntKind.i64.wrap (2*((k:Nat):Int)))) kj (congrArg (Value.int .i64) ((IntWalk.i64_in _ (by omega)).trans (by omega)))) ?_
  refine Qaa (.slice a_t ts.length c_t) 30 rfl kj kj ?_
  refine Qaa (.int .i64 ((ts.length:Nat):Int)) 31 rfl kj kj ?_
  refine Qaa (.bool true) 32 rfl kj (Qai (u:=.bool (decide (((2*k:Nat):Int)<((ts.length:Nat):Int)))) kj (congrArg Value.bool (decide_eq_true (by omega)))) ?_
  refine Qaa (.bool true) 33 rfl kj kj ?_
  refine Qaa (.slice a_t ts.length c_t) 34 rfl kj kj ?_
  refine Qaa (.int .i64 ((k:Nat):Int)) 35 rfl kj kj ?_
  refine Qaa (.int .i64 (((2*k:Nat):Int))) 36 rfl kj (Qai (u:=.int .i64 (IntKind.i64.wrap (2*((k:Nat):Int)))) kj (congrArg (Value.int .i64) ((IntWalk.i64_in _ (by omega)).trans (by omega)))) ?_
  refine Qaa (.pointer (some ⟨gyT,oyT+(2*k)*99,none⟩)) 37 rfl kj (Qao 23 _ _ .i64 (2*k) gyT oyT ts.length c_t 41 99 a_t (hay (by omega)) rfl kj kj kj kj (by omega)) ?_
  refine Qaa (.pointer (some ⟨gyT,oyT+(2*k)*99,none⟩)) 38 rfl kj kj ?_
  refine Qaa (.bool true) 39 rfl kj (Qaj 4 _ _ (.bool true) ((NdAt.at3 hny).1.trans (congrArg (fun z=>some (Value.bool z)) hyu)) rfl kj kj) ?_
  refine Qaa (.bool true) 40 rfl kj kj ?_
  refine Qae ?_
  refine hK10 _ _ ?_
  refine cond_true kj ?_
  refine wp_skip ?_
  refine hK9 _ _ ?_
  refine wp_block ?_
  refine Qab ?_
  refine Qaa (.int .i64 ((k:Nat):Int)) 41 rfl kj kj ?_
  refine Qaa (.int .i64 ((k+1:Nat):Int)) 42 rfl kj (Qai (u:=.int .i64 (IntKind.i64.wrap (((k:Nat):Int)+1))) kj (congrArg (Value.int .i64) (i64n _ _ (by omega) (by omega)))) ?_
  refine Qaa (.int .i64 ((k+1:Nat):Int)) 7 rfl kj kj ?_
  refine Qae ?_
  repeat (first | with_reducible refine goX1 ?_ | with_reducible refine goX2 ?_ | with_reducible refine goX3 ?_)
  exact Qas (k+1) ⟨rfl,rfl,rfl,trivial⟩ ⟨(by omega),e5,xx1⟩ (by show m-(k+1)<m-k; omega)
 ·skip
  refine Qab ?_
  refine Qaa (.int .i64 ((k:Nat):Int)) 28 rfl kj kj ?_
  refine Qaa (.int .i64 (((2*k:Nat):Int))) 29 rfl kj (Qai (u:=.int .i64 (IntKind.i64.wrap (2*((k:Nat):Int)))) kj (congrArg (Value.int .i64) ((IntWalk.i64_in _ (by omega)).trans (by omega)))) ?_
  refine Qaa (.slice a_t ts.length c_t) 30 rfl kj kj ?_
  refine Qaa (.int .i64 ((ts.length:Nat):Int)) 31 rfl kj kj ?_
  refine Qaa (.bool false) 32 rfl kj (Qai (u:=.bool (decide (((2*k:Nat):Int)<((ts.length:Nat):Int)))) kj (congrArg Value.bool (decide_eq_false (by omega)))) ?_
  refine Qaa (.bool false) 33 rfl kj kj ?_
  refine Qad 34 rfl kj ?_
  refine Qad 35 rfl kj ?_
  refine Qad 36 rfl kj ?_
  refine Qad 37 rfl kj ?_
  refine Qad 38 rfl kj ?_
  refine Qad 39 rfl kj ?_
  refine Qaa (.bool false) 40 rfl kj kj ?_
  refine Qae ?_
  refine hK10 _ _ ?_
  refine cond_false kj ?_
  refine wp_exit ?_
  refine hK8 _ _ ?_
  refine wp_seq_k fun K11 hK11=>?_
  refine wp_seq_k fun K12 hK12=>?_
  rw [←hq]
  skip
  ·skip
   refine Qab ?_
   refine Qaa (.int .i64 ((m:Nat):Int)) 43 rfl kj kj ?_
   refine Qaa (.bool false) 44 rfl kj (Qai (u:=.bool ((((m:Nat):Int)==32))) kj (congrArg Value.bool (beq_eq_false_iff_ne.2 (by omega)))) ?_
   refine Qae ?_
   refine hK12 _ _ ?_
   refine cond_false kj ?_
   refine wp_skip ?_
   refine hK11 _ _ ?_
   refine wp_seq_k fun K13 hK13=>?_
   refine Qab ?_
   refine Qaa (.slice a_t ts.length c_t) 45 rfl kj kj ?_
   refine Qa7 (fun v W'=>(fun v W9=>∃ us,AsC us ts∧OwT V1.heap.size us v W9) v W'∧Ext V1 W') 21 #[.slice a_t ts.length c_t] 46 rfl kj kj ((QhA ts a_t _ _ _ (TrAt.ext ht xx1) htl hmt).mono (by rintro e w' ⟨v,rfl,e1,hv⟩; exact ⟨v,rfl,hv,e1⟩)) fun vv14 W6 hh14=>?_
   obtain ⟨hv14,e6⟩:=hh14
   have x6:Ext w W6:=Ext.tr xx1 e6
   obtain ⟨us,has,hU⟩:=hv14
   have hM0:us.length=ts.length:=has.1
   refine Qaa (vv14) 8 rfl kj kj ?_
   refine Qae ?_
   refine hK13 _ _ ?_
   refine wp_seq_k fun K15 hK15=>?_
   refine wp_block ?_
   refine Qaz (fun (s2:Nat×Value)=>[(0,.slice a_t ts.length c_t),(3,.pointer (some ⟨g2,0,none⟩)),(7,.int .i64 ((m:Nat):Int)),(8,s2.2)]) (fun (s2:Nat×Value) W=>(s2.1≤1)∧(OwT V1.heap.size (us++List.replicate (s2.1*(ts.length+1)) zn) s2.2 W)∧(Below V1.heap.size W6 W)∧(Ext w W)) (fun (s2:Nat×Value)=>1-s2.1) (0,vv14) ⟨rfl,rfl,rfl,rfl,trivial⟩ ⟨(Nat.zero_le _),(by rw [Nat.zero_mul,List.replicate_zero,List.append_nil]; exact hU),(RowKit.Below.refl _ W6),x6⟩ fun s2 X2 V2 hI2=>?_
   obtain ⟨q,gv⟩:=s2
   obtain ⟨hq1,hG,kk2,xx2⟩:=hI2
   replace hq1:q≤1:=hq1
   replace hG:OwT V1.heap.size (us++List.replicate (q*(ts.length+1)) zn) gv V2:=hG
   replace kk2:Below V1.heap.size W6 V2:=kk2
   replace xx2:Ext w V2:=xx2
   have l7:=kk2
   have hgl:(us++List.replicate (q*(ts.length+1)) zn).length=ts.length+q*(ts.length+1):=by rw [List.length_append,qZ,hM0]
   obtain ⟨aG,cG,hvG⟩:=OwH.slice hG
   rw [hgl] at hvG
   subst hvG
   refine wp_seq_k fun K16 hK16=>?_
   refine wp_seq_k fun K17 hK17=>?_
   rcases (show q=0∨q=1 by omega) with hq | hq
   ·skip
    have hgn:ts.length+q*(ts.length+1)=ts.length:=by rw [hq]; omega
    rw [hgn] at hG ⊢
    refine Qab ?_
    refine Qaa (.slice aG (ts.length) cG) 47 rfl kj kj ?_
    refine Qaa (.int .i64 ((ts.length:Nat):Int)) 48 rfl kj kj ?_
    refine Qaa (.int .i64 ((m:Nat):Int)) 49 rfl kj kj ?_
    refine Qaa (.int .i64 (((2*m:Nat):Int))) 50 rfl kj (Qai (u:=.int .i64 (IntKind.i64.wrap (2*((m:Nat):Int)))) kj (congrArg (Value.int .i64) ((IntWalk.i64_in _ (by omega)).trans (by omega)))) ?_
    refine Qaa (.int .i64 (((2*m)+1:Nat):Int)) 51 rfl kj (Qai (u:=.int .i64 (IntKind.i64.wrap ((((2*m:Nat):Int))+1))) kj (congrArg (Value.int .i64) (i64n _ _ (by omega) (by omega)))) ?_
    refine Qaa (.bool true) 52 rfl kj (Qai (u:=.bool (decide (((ts.length:Nat):Int)<(((2*m)+1:Nat):Int)))) kj (congrArg Value.bool (decide_eq_true (by omega)))) ?_
    refine Qae ?_
    refine hK17 _ _ ?_
    refine cond_true kj ?_
    refine wp_skip ?_
    refine hK16 _ _ ?_
    refine wp_block ?_
    refine wp_seq_k fun K18 hK18=>?_
    refine Qab ?_
    refine Qaa (.slice aG (ts.length) cG) 53 rfl kj kj ?_
    refine Qaa (.int .i64 ((ts.length:Nat):Int)) 54 rfl kj kj ?_
    refine Qaa (.int .i64 ((ts.length:Nat):Int)) 9 rfl kj kj ?_
    refine Qae ?_
    refine hK18 _ _ ?_
    refine wp_seq_k fun K19 hK19=>?_
    refine Qab ?_
    refine Qaa (.int .i64 0) 10 rfl kj kj ?_
    refine Qae ?_
    refine hK19 _ _ ?_
    refine wp_block ?_
    refine Qaz (fun (s3:Nat×Value)=>[(0,.slice a_t ts.length c_t),(3,.pointer (some ⟨g2,0,none⟩)),(7,.int .i64 ((m:Nat):Int)),(8,s3.2),(9,.int .i64 ((ts.length:Nat):Int)),(10,.int .i64 ((s3.1:Nat):Int))]) (fun (s3:Nat×Value) W=>(s3.1≤ts.length+1)∧(OwT V1.heap.size (us++List.replicate (s3.1) zn) s3.2 W)∧(Below V1.heap.size V2 W)∧(Ext w W)) (fun (s3:Nat×Value)=>ts.length+1-s3.1) (0,.slice aG (ts.length) cG) ⟨rfl,rfl,rfl,rfl,rfl,rfl,trivial⟩ ⟨(Nat.zero_le _),(by rw [List.replicate_zero,List.append_nil]; rw [hq,Nat.zero_mul,List.replicate_zero,List.append_nil] at hG; exact (OwH.ext hG (Rely.Ext.refl V2))),(RowKit.Below.refl _ V2),xx2⟩ fun s3 X3 V3 hI3=>?_
    obtain ⟨j,jv⟩:=s3
    obtain ⟨hj,hJ,kk3,xx3⟩:=hI3
    replace hj:j≤ts.length+1:=hj
    replace hJ:OwT V1.heap.size (us++List.replicate (j) zn) jv V3:=hJ
    replace kk3:Below V1.heap.size V2 V3:=kk3
    replace xx3:Ext w V3:=xx3
    have l8:=kk3
    refine wp_seq_k fun K20 hK20=>?_
    refine wp_seq_k fun K21 hK21=>?_
    refine Qab ?_
    refine Qaa (.int .i64 ((j:Nat):Int)) 55 rfl kj kj ?_
    refine Qaa (.int .i64 ((ts.length:Nat):Int)) 56 rfl kj kj ?_
    refine Qaa (.bool (decide (((j:Nat):Int)≤((ts.length:Nat):Int)))) 57 rfl kj kj ?_
    refine Qae ?_
    refine hK21 _ _ ?_
    refine Qat (t:=decide (((j:Nat):Int)≤((ts.length:Nat):Int))) kj (fun c22=>?_) (fun c22=>?_)
    ·skip
     have h57:j≤ts.length:=by have:=of_decide_eq_true c22; omega
     refine wp_skip ?_
     refine hK20 _ _ ?_
     refine wp_seq_k fun K23 hK23=>?_
     refine wp_block ?_
     refine Qab ?_
     refine Qaa (jv) 60 rfl kj kj ?_
     refine Qaa (.agg (cat [#[.bool false],#[.int .i64 0],ints .u8 (List.replicate 32 0),ints .u8 (List.replicate 32 0),ints .u8 (List.replicate 32 0),#[.slice none 0 0]])) 61 rfl kj kj ?_
     refine Qfx (cat (ndP zn)) 41 1 1 62 rfl kj (Qh0 23 41 99 _ (.agg (cat (ndP zn))) rfl kj kj kj kj (Qbf zn Qdj) (by decide) (by decide)) fun gz W9 lz e9 rz=>?_
     have x9:Ext w W9:=Ext.tr xx3 e9
     have y8_9:Ext V3 W9:=(Rely.Ext.trans (Rely.Ext.refl V3) e9)
     refine Qgs 136 (.tmp 60) (.tmp 62) 23 rfl kj kj (by decide) 63 rfl kj kj kj (OwH.ext hJ y8_9) (n:=zn) (QgM _ _) (fun _ _ g h=>by rw [QiS] at h; cases h) rz (by rw [List.length_append,qZ]; omega) (qT (qT (qT (qT (qR _) e6.size) l7.size) l8.size) e9.size) fun u2 W10 hJ2 l10=>?_
     have x10:Ext w W10:=Ext.low x9 l10 xx1.size
     refine Qaa (u2) 8 rfl kj kj ?_
     refine Qae ?_
     refine hK23 _ _ ?_
     refine Qab ?_
     refine Qaa (.int .i64 ((j:Nat):Int)) 58 rfl kj kj ?_
     refine Qaa (.int .i64 (((j+1:Nat):Int))) 59 rfl kj (Qai (u:=.int .i64 (IntKind.i64.wrap (((j:Nat):Int)+1))) kj (congrArg (Value.int .i64) (i64n _ _ (by omega) (by omega)))) ?_
     refine Qaa (.int .i64 (((j+1:Nat):Int))) 10 rfl kj kj ?_
     refine Qae ?_
     have y5_6:Ext V1 W6:=(Rely.Ext.trans (Rely.Ext.refl V1) e6)
     have y5_7:Ext V1 V2:=(Ext.low y5_6 l7 (Rely.Ext.refl V1).size)
     have y5_8:Ext V1 V3:=(Ext.low y5_7 l8 (Rely.Ext.refl V1).size)
     repeat (first | with_reducible refine goX1 ?_ | with_reducible refine goX2 ?_ | with_reducible refine goX3 ?_)
     exact Qas ((j+1),u2) ⟨rfl,rfl,rfl,rfl,rfl,rfl,trivial⟩ ⟨(by omega),(by rw [List.replicate_succ',←List.append_assoc]; exact hJ2),(RowKit.Below.trans (RowKit.Below.trans l8 (RowKit.Below.mono e9 y5_8.size)) l10),x10⟩ (by show ts.length+1-(j+1)<ts.length+1-j; omega)
    ·skip
     have h57:ts.length<j:=by have:=of_decide_eq_false c22; omega
     refine wp_exit ?_
     repeat (first | with_reducible refine goX1 ?_ | with_reducible refine goX2 ?_ | with_reducible refine goX3 ?_)
     exact Qas (1,jv) ⟨rfl,rfl,rfl,rfl,trivial⟩ ⟨(qR _),(by rw [Nat.one_mul]; rw [show ts.length+1=j by omega]; exact hJ),(RowKit.Below.trans l7 l8),xx3⟩ (by show 1-1<1-q; omega)
   ·skip
    have hgn:ts.length+q*(ts.length+1)=2*ts.length+1:=by rw [hq]; omega
    rw [hgn] at hG ⊢
    have hG1:OwT V1.heap.size (us++List.replicate (ts.length+1) zn) (.slice aG (2*ts.length+1) cG) V2:=by rw [hq,Nat.one_mul] at hG; exact hG
    obtain ⟨gO,c9,cuO,hvO,lgO,rO,-,hcO,-⟩:=hG1.opens (by rw [List.length_append,qZ]; omega)
    simp only [Value.slice.injEq] at hvO
    obtain ⟨rfl,-,rfl⟩:=hvO
    have hM:(us++List.replicate (ts.length+1) zn).length=2*ts.length+1:=by rw [List.length_append,qZ,hM0]; omega
    have bgO:w.heap.size≤gO:=qT xx1.size lgO
    have hasT:AsC (us++List.replicate (ts.length+1) zn) T0:=hT0▸has.app _
    clear hG
    refine Qab ?_
    refine Qaa (.slice (some ⟨gO,0,none⟩) (2*ts.length+1) cG) 47 rfl kj kj ?_
    refine Qaa (.int .i64 ((2*ts.length+1:Nat):Int)) 48 rfl kj kj ?_
    refine Qaa (.int .i64 ((m:Nat):Int)) 49 rfl kj kj ?_
    refine Qaa (.int .i64 (((2*m:Nat):Int))) 50 rfl kj (Qai (u:=.int .i64 (IntKind.i64.wrap (2*((m:Nat):Int)))) kj (congrArg (Value.int .i64) ((IntWalk.i64_in _ (by omega)).trans (by omega)))) ?_
    refine Qaa (.int .i64 (((2*m)+1:Nat):Int)) 51 rfl kj (Qai (u:=.int .i64 (IntKind.i64.wrap ((((2*m:Nat):Int))+1))) kj (congrArg (Value.int .i64) (i64n _ _ (by omega) (by omega)))) ?_
    refine Qaa (.bool false) 52 rfl kj (Qai (u:=.bool (decide (((2*ts.length+1:Nat):Int)<(((2*m)+1:Nat):Int)))) kj (congrArg Value.bool (decide_eq_false (by omega)))) ?_
    refine Qae ?_
    refine hK17 _ _ ?_
    refine cond_false kj ?_
    refine wp_exit ?_
    refine hK15 _ _ ?_
    refine wp_seq_k fun K25 hK25=>?_
    refine Qab ?_
    refine Qaa (.slice (some ⟨gO,0,none⟩) (2*ts.length+1) cG) 64 rfl kj kj ?_
    refine Qaa (.int .i64 ((m:Nat):Int)) 65 rfl kj kj ?_
    refine Qaa (.int .i64 (((2*m:Nat):Int))) 66 rfl kj (Qai (u:=.int .i64 (IntKind.i64.wrap (2*((m:Nat):Int)))) kj (congrArg (Value.int .i64) ((IntWalk.i64_in _ (by omega)).trans (by omega)))) ?_
    have r2_4:=(Qah r2_3 e4)
    have r2_5:=(Qah r2_4 e5)
    have r2_6:=(Qah r2_5 e6)
    have r2_7:=(QhX l7 r2_6 (QaB r2_5))
    refine Qaa (.agg (cat [#[.bool nd.n.us],#[.int .i64 nd.n.nm],ints .u8 (nd.n.key),ints .u8 (nd.n.sg),ints .u8 (nd.n.pa),#[.slice nd.a nd.n.ms.length nd.c]])) 67 rfl kj (Qa9 41 _ g2 41 _ _ r2_7 rfl kj kj (isz (n:=99) kj (by rw [Qac,Qac,Qac,Qac,Qac,Qac]; simp only [qS,cat,((Qaf _ _).trans hok.gl),((Qaf _ _).trans hok.kl),((Qaf _ _).trans hok.pl)]; rfl))) ?_
    refine Qaa (.pointer (some ⟨gO,0+(2*m)*99,none⟩)) 68 rfl kj (Qa6 23 _ _ .i64 (2*m) gO 0 (2*ts.length+1) cG 41 99 rfl kj kj kj kj (by omega)) ?_
    refine QeO 41 _ _ gO (2*m) cG (n:=nd) hM hG1 (by omega) hok rfl kj kj kj rfl kj fun W8 p8 hV0=>?_
    have x8:Ext w W8:=Puts.ext p8 xx2 bgO
    obtain ⟨-,cuV0,rV8⟩:=hV0.rowBlock (g:=gO) rfl
    refine Qae ?_
    refine hK25 _ _ ?_
    refine wp_seq_k fun K26 hK26=>?_
    refine Qab ?_
    refine Qaa (.int .i64 ((m:Nat):Int)) 69 rfl kj kj ?_
    refine Qaa (.int .i64 (2*((m:Nat):Int))) 70 rfl kj (Qai (u:=.int .i64 (IntKind.i64.wrap (2*((m:Nat):Int)))) kj (congrArg (Value.int .i64) (IntWalk.i64_in _ (by omega)))) ?_
    refine Qaa (.slice (some ⟨gO,0,none⟩) (2*ts.length+1) cG) 71 rfl kj kj ?_
    refine Qaa (.int .i64 ((2*ts.length+1:Nat):Int)) 72 rfl kj kj ?_
    refine Qal (.int .i64 ((2*L:Nat):Int)) 32 #[.int .i64 ((2*ts.length+1:Nat):Int)] 73 rfl kj kj (Qcr ((2*ts.length+1:Nat):Int) _ (QbE (by omega) hL2) _) fun W9 e9=>?_
    have x9:Ext w W9:=Ext.tr x8 e9
    refine Qa7 (fun v W'=>(OwnN .i64 3 W9.heap.size (upL (2*((m:Nat):Int)) ((2*L:Nat):Int) K)) v W'∧Ext W9 W') 54 #[.int .i64 (2*((m:Nat):Int)),.int .i64 ((2*L:Nat):Int)] 74 rfl kj kj ((Qh5 (2*((m:Nat):Int)) ((2*L:Nat):Int) K hK hneg hall _).mono (by rintro e w' ⟨v,rfl,e1,hv⟩; exact ⟨v,rfl,hv,e1⟩)) fun vv27 W10 hh27=>?_
    obtain ⟨hv27,e10⟩:=hh27
    have x10:Ext w W10:=Ext.tr x9 e10
    have r24_9:=(Qah rV8 e9)
    have nbp:Value.ownBlock vv27≠some gO:=OwnN.nb hv27 (QaB r24_9)
    have hrp:=OwnN.rd hv27
    obtain ⟨ap,cp,hvp,-⟩:=id hrp
    subst hvp
    refine Qaa (.slice ap ((upL (2*((m:Nat):Int)) ((2*L:Nat):Int) K).length) cp) 11 rfl kj kj ?_
    refine Qae ?_
    refine hK26 _ _ ?_
    refine wp_seq_k fun K28 hK28=>?_
    refine wp_seq_k fun K29 hK29=>?_
    refine Qab ?_
    refine Qaa (.int .i64 0) 12 rfl kj kj ?_
    refine Qae ?_
    refine hK29 _ _ ?_
    refine wp_block ?_
    have y8_9:Ext W8 W9:=(Rely.Ext.trans (Rely.Ext.refl W8) e9)
    have y8_10:Ext W8 W10:=(Rely.Ext.trans y8_9 e10)
    refine Qaz (fun (s4:Nat×List NdV)=>[(7,.int .i64 ((m:Nat):Int)),(8,.slice (some ⟨gO,0,none⟩) (2*ts.length+1) cG),(11,.slice ap ((upL (2*((m:Nat):Int)) ((2*L:Nat):Int) K).length) cp),(12,.int .i64 ((s4.1:Nat):Int))]) (fun (s4:Nat×List NdV) W=>(s4.1≤(upL (2*((m:Nat):Int)) ((2*L:Nat):Int) K).length)∧(s4.2.length=2*ts.length+1)∧(AsC s4.2 (insL ((us++List.replicate (ts.length+1) zn).set (2*m) nd) (2*((m:Nat):Int)) ((2*L:Nat):Int) ((m:Nat):Int) (List.range s4.1)))∧(ndi s4.2 (2*m)=nd)∧(OwH V1.heap.size s4.2 (.slice (some ⟨gO,0,none⟩) (2*ts.length+1) cG) W (some (2*m)))∧(QaQ [gO] W10 W)∧(Ext w W)) (fun (s4:Nat×List NdV)=>(upL (2*((m:Nat):Int)) ((2*L:Nat):Int) K).length-s4.1) (0,((us++List.replicate (ts.length+1) zn).set (2*m) nd)) ⟨rfl,rfl,rfl,rfl,trivial⟩ ⟨(Nat.zero_le _),((List.length_set ..).trans hM),(AsC.refl _),(by rw [QaC nd (by omega),if_pos rfl]),(OwH.ext hV0 y8_10),(QaQ.refl [gO] W10),x10⟩ fun s4 X4 V4 hI4=>?_
    obtain ⟨k,vs⟩:=s4
    obtain ⟨hk,hvl,hvc,hh2,hV,kk4,xx4⟩:=hI4
    replace hk:k≤(upL (2*((m:Nat):Int)) ((2*L:Nat):Int) K).length:=hk
    replace hvl:vs.length=2*ts.length+1:=hvl
    replace hvc:AsC vs (insL ((us++List.replicate (ts.length+1) zn).set (2*m) nd) (2*((m:Nat):Int)) ((2*L:Nat):Int) ((m:Nat):Int) (List.range k)):=hvc
    replace hh2:ndi vs (2*m)=nd:=hh2
    replace hV:OwH V1.heap.size vs (.slice (some ⟨gO,0,none⟩) (2*ts.length+1) cG) V4 (some (2*m)):=hV
    replace kk4:QaQ [gO] W10 V4:=kk4
    replace xx4:Ext w V4:=xx4
    have q11:=kk4
    obtain ⟨-,cuV,rOv⟩:=hV.rowBlock (g:=gO) rfl
    refine wp_seq_k fun K30 hK30=>?_
    refine wp_seq_k fun K31 hK31=>?_
    refine Qab ?_
    refine Qaa (.int .i64 ((k:Nat):Int)) 75 rfl kj kj ?_
    refine Qaa (.slice ap ((upL (2*((m:Nat):Int)) ((2*L:Nat):Int) K).length) cp) 76 rfl kj kj ?_
    refine Qaa (.int .i64 (((upL (2*((m:Nat):Int)) ((2*L:Nat):Int) K).length:Nat):Int)) 77 rfl kj kj ?_
    refine Qaa (.bool (decide (((k:Nat):Int)<(((upL (2*((m:Nat):Int)) ((2*L:Nat):Int) K).length:Nat):Int)))) 78 rfl kj kj ?_
    refine Qae ?_
    refine hK31 _ _ ?_
    refine Qat (t:=decide (((k:Nat):Int)<(((upL (2*((m:Nat):Int)) ((2*L:Nat):Int) K).length:Nat):Int))) kj (fun c32=>?_) (fun c32=>?_)
    ·skip
     have hlt78:k<(upL (2*((m:Nat):Int)) ((2*L:Nat):Int) K).length:=by have:=of_decide_eq_true c32; omega
     have f34_11:=(OwnN.keepsL hv27 q11 (QfV nbp QhP))
     have hnx_33:(upL (2*((m:Nat):Int)) ((2*L:Nat):Int) K).length=(upL (2*((m:Nat):Int)) ((2*L:Nat):Int) K).length:=rfl
     obtain ⟨gcx_33,ocx_33,hax_33,hlx_33,hcx_33⟩:=QaZ (OwnN.rd f34_11) (by rw [hnx_33]; omega)
     have hkK:k<K:=by rw [QcM] at hlt78; exact hlt78
     have hk0:=hall k hkK
     obtain ⟨u,hu⟩:∃ u,u=upN (2*((m:Nat):Int)) ((2*L:Nat):Int) k:=⟨_,rfl⟩
     have hue:=Qb8 hk0
     rw [←hu] at hue
     have huo:=QcL hk0
     have hul:=Qdz (x:=2*((m:Nat):Int)) k hTr
     rw [←hu] at hul
     have hnu:nth (upL (2*((m:Nat):Int)) ((2*L:Nat):Int) K) k=((u:Nat):Int):=(QfL hkK).trans hue.symm
     have hnt:=OwH.nodeH hvl hV (x:=u) (by omega) (by omega)
     obtain ⟨nt,ent⟩:∃ z,z=ndi vs u:=⟨_,rfl⟩
     rw [←ent] at hnt
     have okt:=hnt.ok
     obtain ⟨hpn,hpd⟩:=Qgy (Qei hTr (show (0:Int)≤((m:Nat):Int) by omega) (show ((m:Nat):Int)<((2*L:Nat):Int) by omega)) (show k<6 by omega) (fun i hi=>hall i (by omega))
     have hcu:nt.n=(ndi T0 u).n:=by
      rw [ent,hvc.all u,Qfc _ _ (fun z _=>by rw [List.length_set,hM]; exact QhE hTr (by omega) z) hpd,if_neg (fun q=>hpn (by rw [←hu]; exact q.1)),QaC nd (by omega),if_neg (show u≠2*m by omega)]; exact hasT.all u
     have hil:upN (2*((m:Nat):Int)) ((2*L:Nat):Int) k<(insL ((us++List.replicate (ts.length+1) zn).set (2*m) nd) (2*((m:Nat):Int)) ((2*L:Nat):Int) ((m:Nat):Int) (List.range k)).length:=by rw [Qby,List.length_set,hM,←hu]; omega
     refine wp_skip ?_
     refine hK30 _ _ ?_
     refine wp_seq_k fun K35 hK35=>?_
     refine wp_block ?_
     refine wp_seq_k fun K36 hK36=>?_
     refine wp_seq_k fun K37 hK37=>?_
     rcases (show nt.n.us=true∨nt.n.us=false from by cases nt.n.us; exact .inr rfl; exact .inl rfl) with hq | hq
     ·skip
      have hnx_38:(upL (2*((m:Nat):Int)) ((2*L:Nat):Int) K).length=(upL (2*((m:Nat):Int)) ((2*L:Nat):Int) K).length:=rfl
      obtain ⟨gcx_38,ocx_38,hax_38,hlx_38,hcx_38⟩:=QaZ (OwnN.rd f34_11) (by rw [hnx_38]; omega)
      have hmp:=F.ms_lt (x:=u) (by omega) (by omega) (hcu▸hq)
      rw [←hcu] at hmp
      have hmn:((m:Nat):Int)∉nt.n.ms:=fun q=>by have h9:=(hmp.2 _ q).2.2; rw [Int.toNat_natCast,hfm] at h9; cases h9
      have hntm:nt.n.ms.length≤900:=by rw [hcu]; exact hm9 u
      refine Qab ?_
      refine Qaa (.slice (some ⟨gO,0,none⟩) (2*ts.length+1) cG) 81 rfl kj kj ?_
      refine Qaa (.slice ap ((upL (2*((m:Nat):Int)) ((2*L:Nat):Int) K).length) cp) 82 rfl kj kj ?_
      refine Qaa (.int .i64 ((k:Nat):Int)) 83 rfl kj kj ?_
      refine Qaa (.pointer (some ⟨gcx_38,ocx_38+k,none⟩)) 84 rfl kj (QaA 36 _ _ .i64 k gcx_38 ocx_38 ((upL (2*((m:Nat):Int)) ((2*L:Nat):Int) K).length) cp 3 ap _ hax_38 rfl rfl kj kj kj kj (Nat.lt_of_lt_of_eq (show k<(upL (2*((m:Nat):Int)) ((2*L:Nat):Int) K).length by omega) hnx_38.symm)) ?_
      refine Qaa (.int .i64 ((u:Nat):Int)) 85 rfl kj (by rw [←hnu]; exact (Qaj 3 _ _ (.int .i64 (nth (upL (2*((m:Nat):Int)) ((2*L:Nat):Int) K) (k))) (hcx_38 k (Nat.lt_of_lt_of_eq (show k<(upL (2*((m:Nat):Int)) ((2*L:Nat):Int) K).length by omega) hnx_38.symm)) rfl kj kj)) ?_
      refine Qaa (.pointer (some ⟨gO,0+u*99,none⟩)) 86 rfl kj (Qa6 23 _ _ .i64 u gO 0 (2*ts.length+1) cG 41 99 rfl kj kj kj kj (by omega)) ?_
      refine Qaa (.pointer (some ⟨gO,0+u*99,none⟩)) 87 rfl kj kj ?_
      refine Qaa (.bool true) 88 rfl kj (Qaj 4 _ _ (.bool true) ((NdAt.at3 hnt).1.trans (congrArg (fun z=>some (Value.bool z)) hq)) rfl kj kj) ?_
      refine Qaa (.bool false) 89 rfl kj kj ?_
      refine Qae ?_
      refine hK37 _ _ ?_
      refine cond_false kj ?_
      refine wp_skip ?_
      refine hK36 _ _ ?_
      refine wp_seq_k fun K39 hK39=>?_
      refine Qab ?_
      refine Qaa (.slice none 0 0) 13 rfl kj kj ?_
      refine Qae ?_
      refine hK39 _ _ ?_
      refine wp_seq_k fun K40 hK40=>?_
      refine wp_seq_k fun K41 hK41=>?_
      refine Qab ?_
      refine Qaa (.int .i64 0) 14 rfl kj kj ?_
      refine Qae ?_
      refine hK41 _ _ ?_
      refine wp_block ?_
      refine Qaz (fun (s5:Nat×Value)=>[(7,.int .i64 ((m:Nat):Int)),(8,.slice (some ⟨gO,0,none⟩) (2*ts.length+1) cG),(11,.slice ap ((upL (2*((m:Nat):Int)) ((2*L:Nat):Int) K).length) cp),(12,.int .i64 ((k:Nat):Int)),(13,s5.2),(14,.int .i64 ((s5.1:Nat):Int))]) (fun (s5:Nat×Value) W=>(s5.1≤32)∧(OwnN .i64 3 V4.heap.size (wl (Qcb nt.n.ms m s5.1)) s5.2 W)∧(Below V4.heap.size V4 W)∧(Ext w W)) (fun (s5:Nat×Value)=>32-s5.1) (0,(.slice none 0 0)) ⟨rfl,rfl,rfl,rfl,rfl,rfl,trivial⟩ ⟨(Nat.zero_le _),(QcG _ _ _ _),(RowKit.Below.refl _ V4),xx4⟩ fun s5 X5 V5 hI5=>?_
      obtain ⟨j,uu⟩:=s5
      obtain ⟨hj,huu,kk5,xx5⟩:=hI5
      replace hj:j≤32:=hj
      replace huu:OwnN .i64 3 V4.heap.size (wl (Qcb nt.n.ms m j)) uu V5:=huu
      replace kk5:Below V4.heap.size V4 V5:=kk5
      replace xx5:Ext w V5:=xx5
      have l12:=kk5
      refine wp_seq_k fun K42 hK42=>?_
      refine wp_seq_k fun K43 hK43=>?_
      refine Qab ?_
      refine Qaa (.int .i64 ((j:Nat):Int)) 90 rfl kj kj ?_
      refine Qaa (.bool (decide (((j:Nat):Int)<32))) 91 rfl kj kj ?_
      refine Qae ?_
      refine hK43 _ _ ?_
      refine Qat (t:=decide (((j:Nat):Int)<32)) kj (fun c44=>?_) (fun c44=>?_)
      ·skip
       have hlt91:j<32:=by have:=of_decide_eq_true c44; omega
       refine wp_skip ?_
       refine hK42 _ _ ?_
       refine wp_seq_k fun K45 hK45=>?_
       refine wp_block ?_
       refine wp_seq_k fun K46 hK46=>?_
       have y11_12:Ext V4 V5:=(Ext.low (Rely.Ext.refl V4) l12 (Rely.Ext.refl V4).size)
       have hnj:=NdAt.ext hnt y11_12
       have f48_12:=(OwnN.low (n:=0) f34_11 f34_11 l12)
       have hnx_47:(upL (2*((m:Nat):Int)) ((2*L:Nat):Int) K).length=(upL (2*((m:Nat):Int)) ((2*L:Nat):Int) K).length:=rfl
       obtain ⟨gcx_47,ocx_47,hax_47,hlx_47,hcx_47⟩:=QaZ (OwnN.rd f48_12) (by rw [hnx_47]; omega)
       rcases (show j=m∨(j≠m∧((j:Nat):Int)∈nt.n.ms)∨(j≠m∧((j:Nat):Int)∉nt.n.ms) from by by_cases h8:j=m; exact .inl h8; by_cases h7:((j:Nat):Int)∈nt.n.ms; exact .inr (.inl ⟨h8,h7⟩); exact .inr (.inr ⟨h8,h7⟩)) with hqj | hqj | hqj
       ·skip
        refine Qab ?_
        refine Qaa (.int .i64 ((j:Nat):Int)) 94 rfl kj kj ?_
        refine Qaa (.int .i64 ((m:Nat):Int)) 95 rfl kj kj ?_
        refine Qaa (.bool true) 96 rfl kj (Qai (u:=.bool ((((j:Nat):Int)==((m:Nat):Int)))) kj (congrArg Value.bool (beq_iff_eq.2 (by omega)))) ?_
        refine Qaa (.bool true) 97 rfl kj kj ?_
        refine Qad 98 rfl kj ?_
        refine Qad 99 rfl kj ?_
        refine Qad 100 rfl kj ?_
        refine Qad 101 rfl kj ?_
        refine Qad 102 rfl kj ?_
        refine Qad 103 rfl kj ?_
        refine Qad 104 rfl kj ?_
        refine Qad 105 rfl kj ?_
        refine Qad 106 rfl kj ?_
        refine Qad 107 rfl kj ?_
        refine Qaa (.bool true) 108 rfl kj kj ?_
        refine Qae ?_
        refine hK46 _ _ ?_
        refine cond_true kj ?_
        refine Qab ?_
        refine Qaa (uu) 109 rfl kj kj ?_
        refine Qaa (.int .i64 ((j:Nat):Int)) 110 rfl kj kj ?_
        refine Qbw (ints .i64 ([((j:Nat):Int)])) 3 1 111 rfl kj kj fun g49 W13 l49 e13 r49_13=>?_
        have x13:Ext w W13:=Ext.tr xx5 e13
        have b49:w.heap.size≤g49:=qT xx5.size l49
        have f50_13:=(huu.ext e13)
        have y11_13:Ext V4 W13:=(Rely.Ext.trans y11_12 e13)
        refine Qbz (k:=.i64) (T:=3) (xs:=wl (Qcb nt.n.ms m j)) (ys:=[((j:Nat):Int)]) (V:=V4) 8 (.tmp 109) (.tmp 111) 36 rfl kj kj (by decide) 112 rfl kj kj kj f50_13 (QcX (xs:=[((j:Nat):Int)]) (n:=1) rfl r49_13 (QaB r49_13) (show 1≤maxLen from by decide)) (by have h9:=QdI nt.n.ms m j; rw [Qgh]; show (Qcb nt.n.ms m j).length+1≤1000000000; omega) y11_13 fun u2 W14 f51 y14 l14=>?_
        have x14:Ext w W14:=Ext.low x13 l14 xx4.size
        refine Qaa (u2) 13 rfl kj kj ?_
        refine Qae ?_
        refine hK45 _ _ ?_
        refine Qab ?_
        refine Qaa (.int .i64 ((j:Nat):Int)) 92 rfl kj kj ?_
        refine Qaa (.int .i64 ((j+1:Nat):Int)) 93 rfl kj (Qai (u:=.int .i64 (IntKind.i64.wrap (((j:Nat):Int)+1))) kj (congrArg (Value.int .i64) (i64n _ _ (by omega) (by omega)))) ?_
        refine Qaa (.int .i64 ((j+1:Nat):Int)) 14 rfl kj kj ?_
        refine Qae ?_
        repeat (first | with_reducible refine goX1 ?_ | with_reducible refine goX2 ?_ | with_reducible refine goX3 ?_)
        exact Qas ((j+1),u2) ⟨rfl,rfl,rfl,rfl,rfl,rfl,trivial⟩ ⟨(by omega),(by rw [QdH (.inl hqj),Qgi]; exact f51),(RowKit.Below.trans (RowKit.Below.trans l12 (RowKit.Below.mono e13 y11_12.size)) l14),x14⟩ (by show 32-(j+1)<32-j; omega)
       ·skip
        refine Qab ?_
        refine Qaa (.int .i64 ((j:Nat):Int)) 94 rfl kj kj ?_
        refine Qaa (.int .i64 ((m:Nat):Int)) 95 rfl kj kj ?_
        refine Qaa (.bool false) 96 rfl kj (Qai (u:=.bool ((((j:Nat):Int)==((m:Nat):Int)))) kj (congrArg Value.bool (beq_eq_false_iff_ne.2 (by omega)))) ?_
        refine Qaa (.bool false) 97 rfl kj kj ?_
        refine Qaa (.int .i64 ((j:Nat):Int)) 98 rfl kj kj ?_
        refine Qaa (.slice (some ⟨gO,0,none⟩) (2*ts.length+1) cG) 99 rfl kj kj ?_
        refine Qaa (.slice ap ((upL (2*((m:Nat):Int)) ((2*L:Nat):Int) K).length) cp) 100 rfl kj kj ?_
        refine Qaa (.int .i64 ((k:Nat):Int)) 101 rfl kj kj ?_
        refine Qaa (.pointer (some ⟨gcx_47,ocx_47+k,none⟩)) 102 rfl kj (QaA 36 _ _ .i64 k gcx_47 ocx_47 ((upL (2*((m:Nat):Int)) ((2*L:Nat):Int) K).length) cp 3 ap _ hax_47 rfl rfl kj kj kj kj (Nat.lt_of_lt_of_eq (show k<(upL (2*((m:Nat):Int)) ((2*L:Nat):Int) K).length by omega) hnx_47.symm)) ?_
        refine Qaa (.int .i64 ((u:Nat):Int)) 103 rfl kj (by rw [←hnu]; exact (Qaj 3 _ _ (.int .i64 (nth (upL (2*((m:Nat):Int)) ((2*L:Nat):Int) K) (k))) (hcx_47 k (Nat.lt_of_lt_of_eq (show k<(upL (2*((m:Nat):Int)) ((2*L:Nat):Int) K).length by omega) hnx_47.symm)) rfl kj kj)) ?_
        refine Qaa (.pointer (some ⟨gO,0+u*99,none⟩)) 104 rfl kj (Qa6 23 _ _ .i64 u gO 0 (2*ts.length+1) cG 41 99 rfl kj kj kj kj (by omega)) ?_
        refine Qaa (.pointer (some ⟨gO,0+u*99+98,none⟩)) 105 rfl kj kj ?_
        refine Qaa (.slice nt.a nt.n.ms.length nt.c) 106 rfl kj (Qaj 36 _ _ (.slice nt.a nt.n.ms.length nt.c) (NdAt.at3 hnj).2.2 rfl kj kj) ?_
        refine Qal (.bool true) 34 #[.int .i64 ((j:Nat):Int),.slice nt.a nt.n.ms.length nt.c] 107 rfl kj kj (inRb nt.n.ms ((j:Nat):Int) nt.a nt.c _ _ (qT hntm (by decide)) (RdK.here (RdK.ext hnj.rd (Rely.Ext.refl V5))) true (decide_eq_true hqj.2)) fun W13 e13=>?_
        have x13:Ext w W13:=Ext.tr xx5 e13
        refine Qaa (.bool true) 108 rfl kj kj ?_
        refine Qae ?_
        refine hK46 _ _ ?_
        refine cond_true kj ?_
        refine Qab ?_
        refine Qaa (uu) 109 rfl kj kj ?_
        refine Qaa (.int .i64 ((j:Nat):Int)) 110 rfl kj kj ?_
        refine Qbw (ints .i64 ([((j:Nat):Int)])) 3 1 111 rfl kj kj fun g52 W14 l52 e14 r52_14=>?_
        have x14:Ext w W14:=Ext.tr x13 e14
        have b52:w.heap.size≤g52:=qT x13.size l52
        have f53_13:=(huu.ext e13)
        have f54_14:=(f53_13.ext e14)
        have y11_13:Ext V4 W13:=(Rely.Ext.trans y11_12 e13)
        have y11_14:Ext V4 W14:=(Rely.Ext.trans y11_13 e14)
        refine Qbz (k:=.i64) (T:=3) (xs:=wl (Qcb nt.n.ms m j)) (ys:=[((j:Nat):Int)]) (V:=V4) 8 (.tmp 109) (.tmp 111) 36 rfl kj kj (by decide) 112 rfl kj kj kj f54_14 (QcX (xs:=[((j:Nat):Int)]) (n:=1) rfl r52_14 (QaB r52_14) (show 1≤maxLen from by decide)) (by have h9:=QdI nt.n.ms m j; rw [Qgh]; show (Qcb nt.n.ms m j).length+1≤1000000000; omega) y11_14 fun u2 W15 f55 y15 l15=>?_
        have x15:Ext w W15:=Ext.low x14 l15 xx4.size
        refine Qaa (u2) 13 rfl kj kj ?_
        refine Qae ?_
        refine hK45 _ _ ?_
        refine Qab ?_
        refine Qaa (.int .i64 ((j:Nat):Int)) 92 rfl kj kj ?_
        refine Qaa (.int .i64 ((j+1:Nat):Int)) 93 rfl kj (Qai (u:=.int .i64 (IntKind.i64.wrap (((j:Nat):Int)+1))) kj (congrArg (Value.int .i64) (i64n _ _ (by omega) (by omega)))) ?_
        refine Qaa (.int .i64 ((j+1:Nat):Int)) 14 rfl kj kj ?_
        refine Qae ?_
        repeat (first | with_reducible refine goX1 ?_ | with_reducible refine goX2 ?_ | with_reducible refine goX3 ?_)
        exact Qas ((j+1),u2) ⟨rfl,rfl,rfl,rfl,rfl,rfl,trivial⟩ ⟨(by omega),(by rw [QdH (.inr hqj.2),Qgi]; exact f55),(RowKit.Below.trans (RowKit.Below.trans (RowKit.Below.trans l12 (RowKit.Below.mono e13 y11_12.size)) (RowKit.Below.mono e14 y11_13.size)) l15),x15⟩ (by show 32-(j+1)<32-j; omega)
       ·skip
        refine Qab ?_
        refine Qaa (.int .i64 ((j:Nat):Int)) 94 rfl kj kj ?_
        refine Qaa (.int .i64 ((m:Nat):Int)) 95 rfl kj kj ?_
        refine Qaa (.bool false) 96 rfl kj (Qai (u:=.bool ((((j:Nat):Int)==((m:Nat):Int)))) kj (congrArg Value.bool (beq_eq_false_iff_ne.2 (by omega)))) ?_
        refine Qaa (.bool false) 97 rfl kj kj ?_
        refine Qaa (.int .i64 ((j:Nat):Int)) 98 rfl kj kj ?_
        refine Qaa (.slice (some ⟨gO,0,none⟩) (2*ts.length+1) cG) 99 rfl kj kj ?_
        refine Qaa (.slice ap ((upL (2*((m:Nat):Int)) ((2*L:Nat):Int) K).length) cp) 100 rfl kj kj ?_
        refine Qaa (.int .i64 ((k:Nat):Int)) 101 rfl kj kj ?_
        refine Qaa (.pointer (some ⟨gcx_47,ocx_47+k,none⟩)) 102 rfl kj (QaA 36 _ _ .i64 k gcx_47 ocx_47 ((upL (2*((m:Nat):Int)) ((2*L:Nat):Int) K).length) cp 3 ap _ hax_47 rfl rfl kj kj kj kj (Nat.lt_of_lt_of_eq (show k<(upL (2*((m:Nat):Int)) ((2*L:Nat):Int) K).length by omega) hnx_47.symm)) ?_
        refine Qaa (.int .i64 ((u:Nat):Int)) 103 rfl kj (by rw [←hnu]; exact (Qaj 3 _ _ (.int .i64 (nth (upL (2*((m:Nat):Int)) ((2*L:Nat):Int) K) (k))) (hcx_47 k (Nat.lt_of_lt_of_eq (show k<(upL (2*((m:Nat):Int)) ((2*L:Nat):Int) K).length by omega) hnx_47.symm)) rfl kj kj)) ?_
        refine Qaa (.pointer (some ⟨gO,0+u*99,none⟩)) 104 rfl kj (Qa6 23 _ _ .i64 u gO 0 (2*ts.length+1) cG 41 99 rfl kj kj kj kj (by omega)) ?_
        refine Qaa (.pointer (some ⟨gO,0+u*99+98,none⟩)) 105 rfl kj kj ?_
        refine Qaa (.slice nt.a nt.n.ms.length nt.c) 106 rfl kj (Qaj 36 _ _ (.slice nt.a nt.n.ms.length nt.c) (NdAt.at3 hnj).2.2 rfl kj kj) ?_
        refine Qal (.bool false) 34 #[.int .i64 ((j:Nat):Int),.slice nt.a nt.n.ms.length nt.c] 107 rfl kj kj (inRb nt.n.ms ((j:Nat):Int) nt.a nt.c _ _ (qT hntm (by decide)) (RdK.here (RdK.ext hnj.rd (Rely.Ext.refl V5))) false (decide_eq_false hqj.2)) fun W13 e13=>?_
        have x13:Ext w W13:=Ext.tr xx5 e13
        refine Qaa (.bool false) 108 rfl kj kj ?_
        refine Qae ?_
        refine hK46 _ _ ?_
        refine cond_false kj ?_
        refine wp_skip ?_
        refine hK45 _ _ ?_
        refine Qab ?_
        refine Qaa (.int .i64 ((j:Nat):Int)) 92 rfl kj kj ?_
        refine Qaa (.int .i64 ((j+1:Nat):Int)) 93 rfl kj (Qai (u:=.int .i64 (IntKind.i64.wrap (((j:Nat):Int)+1))) kj (congrArg (Value.int .i64) (i64n _ _ (by omega) (by omega)))) ?_
        refine Qaa (.int .i64 ((j+1:Nat):Int)) 14 rfl kj kj ?_
        refine Qae ?_
        have f56_13:=(huu.ext e13)
        repeat (first | with_reducible refine goX1 ?_ | with_reducible refine goX2 ?_ | with_reducible refine goX3 ?_)
        exact Qas ((j+1),uu) ⟨rfl,rfl,rfl,rfl,rfl,rfl,trivial⟩ ⟨(by omega),(by rw [QhG hqj.1 hqj.2]; exact f56_13),(RowKit.Below.trans l12 (RowKit.Below.mono e13 y11_12.size)),x13⟩ (by show 32-(j+1)<32-j; omega)
      ·skip
       have heq91:j=32:=by have:=of_decide_eq_false c44; omega
       refine wp_exit ?_
       refine hK40 _ _ ?_
       have f58_12:=(OwnN.low (n:=0) f34_11 f34_11 l12)
       have hnx_57:(upL (2*((m:Nat):Int)) ((2*L:Nat):Int) K).length=(upL (2*((m:Nat):Int)) ((2*L:Nat):Int) K).length:=rfl
       obtain ⟨gcx_57,ocx_57,hax_57,hlx_57,hcx_57⟩:=QaZ (OwnN.rd f58_12) (by rw [hnx_57]; omega)
       skip
       ·skip
        refine Qab ?_
        refine Qaa (.slice (some ⟨gO,0,none⟩) (2*ts.length+1) cG) 113 rfl kj kj ?_
        refine Qaa (.slice ap ((upL (2*((m:Nat):Int)) ((2*L:Nat):Int) K).length) cp) 114 rfl kj kj ?_
        refine Qaa (.int .i64 ((k:Nat):Int)) 115 rfl kj kj ?_
        refine Qaa (.pointer (some ⟨gcx_57,ocx_57+k,none⟩)) 116 rfl kj (QaA 36 _ _ .i64 k gcx_57 ocx_57 ((upL (2*((m:Nat):Int)) ((2*L:Nat):Int) K).length) cp 3 ap _ hax_57 rfl rfl kj kj kj kj (Nat.lt_of_lt_of_eq (show k<(upL (2*((m:Nat):Int)) ((2*L:Nat):Int) K).length by omega) hnx_57.symm)) ?_
        refine Qaa (.int .i64 ((u:Nat):Int)) 117 rfl kj (by rw [←hnu]; exact (Qaj 3 _ _ (.int .i64 (nth (upL (2*((m:Nat):Int)) ((2*L:Nat):Int) K) (k))) (hcx_57 k (Nat.lt_of_lt_of_eq (show k<(upL (2*((m:Nat):Int)) ((2*L:Nat):Int) K).length by omega) hnx_57.symm)) rfl kj kj)) ?_
        refine Qaa (uu) 118 rfl kj kj ?_
        refine Qaa (.pointer (some ⟨gO,0+u*99,none⟩)) 119 rfl kj (Qa6 23 _ _ .i64 u gO 0 (2*ts.length+1) cG 41 99 rfl kj kj kj kj (by omega)) ?_
        refine Qaa (.pointer (some ⟨gO,0+u*99+98,none⟩)) 120 rfl kj kj ?_
        have y11_12:Ext V4 V5:=(Ext.low (Rely.Ext.refl V4) l12 (Rely.Ext.refl V4).size)
        have hV1:=OwH.ext hV y11_12
        have hl5:=huu
        rw [heq91,Qg4 hmp.1 (fun j hj=>⟨(hmp.2 j hj).1,(hmp.2 j hj).2.1⟩) (by omega) hmn] at hl5
        obtain ⟨a6,c6,hv6,-⟩:=id (OwnN.rd hl5)
        rw [hv6] at hl5
        have hlen6:(insA nt.n.ms (posI nt.n.ms ((m:Nat):Int)) ((m:Nat):Int)).length≤1000:=by rw [QcI (Qds _ _)]; omega
        have hn6:NdIn V1.heap.size V5 ⟨{ (ndi vs u).n with ms:=insA nt.n.ms (posI nt.n.ms ((m:Nat):Int)) ((m:Nat):Int) },a6,c6⟩:=⟨⟨(ent▸okt).kl,(ent▸okt).gl,(ent▸okt).pl,(ent▸okt).kb,(ent▸okt).gb,(ent▸okt).pb⟩,hlen6,OwnN.base (qT (qT (qT (qT (qT (qT (qT (qR _) e6.size) l7.size) (qE p8.2.2.2.1.symm)) e9.size) e10.size) (QaQ.size q11)) (qR _)) hl5⟩
        have ha6:∀ j,j<2*ts.length+1→j≠u→j≠2*m→∀ g,ob ⟨{ (ndi vs u).n with ms:=insA nt.n.ms (posI nt.n.ms ((m:Nat):Int)) ((m:Nat):Int) },a6,c6⟩=some g→ob (ndi vs j)≠some g:=fun j hj hju hjh g h1 h2=>by have h3:=OwnN.ge hl5 h1; have:=(hV.nd j (by omega) (by simpa using hjh)).lt h2; omega
        refine Qfv 36 _ _ (ms:=insA nt.n.ms (posI nt.n.ms ((m:Nat):Int)) ((m:Nat):Int)) (a':=a6) (c':=c6) hvl hV1 (by omega) (by omega) hn6 ha6 rfl kj hv6 kj rfl kj fun W13 p13 hV2=>?_
        have x13:Ext w W13:=Puts.ext p13 xx5 bgO
        refine Qae ?_
        refine hK35 _ _ ?_
        refine Qab ?_
        refine Qaa (.int .i64 ((k:Nat):Int)) 79 rfl kj kj ?_
        refine Qaa (.int .i64 ((k+1:Nat):Int)) 80 rfl kj (Qai (u:=.int .i64 (IntKind.i64.wrap (((k:Nat):Int)+1))) kj (congrArg (Value.int .i64) (i64n _ _ (by omega) (by omega)))) ?_
        refine Qaa (.int .i64 ((k+1:Nat):Int)) 12 rfl kj kj ?_
        refine Qae ?_
        repeat (first | with_reducible refine goX1 ?_ | with_reducible refine goX2 ?_ | with_reducible refine goX3 ?_)
        exact Qas ((k+1),(vs.set u ⟨{ (ndi vs u).n with ms:=insA nt.n.ms (posI nt.n.ms ((m:Nat):Int)) ((m:Nat):Int) },a6,c6⟩)) ⟨rfl,rfl,rfl,rfl,trivial⟩ ⟨(by omega),((List.length_set ..).trans hvl),(by rw [List.range_succ,Qce,ent]; have:=AsC.step (i:=((m:Nat):Int)) (a:=a6) (c:=c6) hvc hil (by rw [←hu,←ent]; exact hq); rw [←hu] at this; exact this),(by rw [QaC _ (by omega),if_neg (by omega)]; exact hh2),hV2,(QaQ.puts (QaQ.low q11 l12 (qT (QaQ.size q11) (qR _))) p13 (.inl (by simp))),x13⟩ (by show (upL (2*((m:Nat):Int)) ((2*L:Nat):Int) K).length-(k+1)<(upL (2*((m:Nat):Int)) ((2*L:Nat):Int) K).length-k; omega)
     ·skip
      have hnx_59:(upL (2*((m:Nat):Int)) ((2*L:Nat):Int) K).length=(upL (2*((m:Nat):Int)) ((2*L:Nat):Int) K).length:=rfl
      obtain ⟨gcx_59,ocx_59,hax_59,hlx_59,hcx_59⟩:=QaZ (OwnN.rd f34_11) (by rw [hnx_59]; omega)
      refine Qab ?_
      refine Qaa (.slice (some ⟨gO,0,none⟩) (2*ts.length+1) cG) 81 rfl kj kj ?_
      refine Qaa (.slice ap ((upL (2*((m:Nat):Int)) ((2*L:Nat):Int) K).length) cp) 82 rfl kj kj ?_
      refine Qaa (.int .i64 ((k:Nat):Int)) 83 rfl kj kj ?_
      refine Qaa (.pointer (some ⟨gcx_59,ocx_59+k,none⟩)) 84 rfl kj (QaA 36 _ _ .i64 k gcx_59 ocx_59 ((upL (2*((m:Nat):Int)) ((2*L:Nat):Int) K).length) cp 3 ap _ hax_59 rfl rfl kj kj kj kj (Nat.lt_of_lt_of_eq (show k<(upL (2*((m:Nat):Int)) ((2*L:Nat):Int) K).length by omega) hnx_59.symm)) ?_
      refine Qaa (.int .i64 ((u:Nat):Int)) 85 rfl kj (by rw [←hnu]; exact (Qaj 3 _ _ (.int .i64 (nth (upL (2*((m:Nat):Int)) ((2*L:Nat):Int) K) (k))) (hcx_59 k (Nat.lt_of_lt_of_eq (show k<(upL (2*((m:Nat):Int)) ((2*L:Nat):Int) K).length by omega) hnx_59.symm)) rfl kj kj)) ?_
      refine Qaa (.pointer (some ⟨gO,0+u*99,none⟩)) 86 rfl kj (Qa6 23 _ _ .i64 u gO 0 (2*ts.length+1) cG 41 99 rfl kj kj kj kj (by omega)) ?_
      refine Qaa (.pointer (some ⟨gO,0+u*99,none⟩)) 87 rfl kj kj ?_
      refine Qaa (.bool false) 88 rfl kj (Qaj 4 _ _ (.bool false) ((NdAt.at3 hnt).1.trans (congrArg (fun z=>some (Value.bool z)) hq)) rfl kj kj) ?_
      refine Qaa (.bool true) 89 rfl kj kj ?_
      refine Qae ?_
      refine hK37 _ _ ?_
      refine cond_true kj ?_
      refine wp_exit ?_
      refine hK35 _ _ ?_
      refine Qab ?_
      refine Qaa (.int .i64 ((k:Nat):Int)) 79 rfl kj kj ?_
      refine Qaa (.int .i64 ((k+1:Nat):Int)) 80 rfl kj (Qai (u:=.int .i64 (IntKind.i64.wrap (((k:Nat):Int)+1))) kj (congrArg (Value.int .i64) (i64n _ _ (by omega) (by omega)))) ?_
      refine Qaa (.int .i64 ((k+1:Nat):Int)) 12 rfl kj kj ?_
      refine Qae ?_
      repeat (first | with_reducible refine goX1 ?_ | with_reducible refine goX2 ?_ | with_reducible refine goX3 ?_)
      exact Qas ((k+1),vs) ⟨rfl,rfl,rfl,rfl,trivial⟩ ⟨(by omega),hvl,(by rw [List.range_succ,Qce]; exact hvc.stay hil (by rw [←hu,←ent]; exact hq)),hh2,(OwH.ext hV (Rely.Ext.refl V4)),q11,xx4⟩ (by show (upL (2*((m:Nat):Int)) ((2*L:Nat):Int) K).length-(k+1)<(upL (2*((m:Nat):Int)) ((2*L:Nat):Int) K).length-k; omega)
    ·skip
     have heq78:k=(upL (2*((m:Nat):Int)) ((2*L:Nat):Int) K).length:=by have:=of_decide_eq_false c32; omega
     refine wp_exit ?_
     refine hK28 _ _ ?_
     refine wp_seq_k fun K60 hK60=>?_
     refine Qab ?_
     refine Qaa (.slice (some ⟨gO,0,none⟩) (2*ts.length+1) cG) 121 rfl kj kj ?_
     refine Qaa (.int .i64 ((m:Nat):Int)) 122 rfl kj kj ?_
     refine Qaa (.slice (some ⟨gO,0,none⟩) (2*ts.length+1) cG) 4 rfl kj kj ?_
     refine Qaa (.int .i64 ((m:Nat):Int)) 5 rfl kj kj ?_
     refine Qaa (.int .i64 0) 6 rfl kj kj ?_
     refine Qae ?_
     refine hK60 _ _ ?_
     refine wp_ret ?_
     repeat (first | with_reducible refine goR1 ?_ | with_reducible refine goR2 ?_)
     have hcE:AsC vs (insT ((us++List.replicate (ts.length+1) zn).set (2*m) nd) (2*((m:Nat):Int)) ((2*L:Nat):Int) ((m:Nat):Int)):=by have h9:=hvc; rw [heq78,QcM,←QdY hK hneg hall] at h9; exact h9
     have hVf:=hV.low xx1.size
     have hms2:(ndi vs (2*m)).n.ms=[]:=by rw [hh2]; exact hms
     rw [←hvl] at hVf
     have hfr:=hVf.frE hms2 (by rw [hh2]; exact rdE hr0)
     rw [hvl] at hfr
     exact (show bodyPost _ _ _ .ret _ _ from ret3 (.slice (some ⟨gO,0,none⟩) (2*ts.length+1) cG) (.int .i64 ((m:Nat):Int)) (.int .i64 0) rfl (Qam kj) (Qam kj) (Qam kj) ⟨_,rfl,xx4,us,vs,has,(by unfold addT; rw [if_neg (by omega),hM0]; exact hcE),_,rfl,hfr⟩)
end Go.Proofs.YtcmaolmofgmkhaaDoor.Te
end
section
namespace Go.Proofs.YtcmaolmofgmkhaaDoor.Te
open Go Go.RowKit
open Rely Auto Own Seat Sha
def named (ts : List NdV) (x:Int):Prop:=∃ j,2*j<ts.length∧(ndi ts (2*j)).n.us=true∧(ndi ts (2*j)).n.nm=x
theorem Qkw {us ts:List NdV} (h:AsC us ts) (x:Int):named us x↔named ts x:=by
  unfold named
  simp only [h.1,h.all]
theorem Qjd {ts : List NdV} {nm:Int} (h:¬ named ts nm):QaG ts nm=-1:=by
  unfold QaG
  split
  · rename_i j h2
    have:=List.find?_some h2
    unfold fitT at this
    simp only [Bool.and_eq_true,decide_eq_true_eq,beq_iff_eq] at this
    exact absurd ⟨j,this.1.1,this.1.2,this.2⟩ h
  · rfl
theorem Qje {ts : List NdV} {L m:Nat} {nm:Int} (f:Form ts L) (hm:2*m<ts.length) (hu:(ndi ts (2*m)).n.us=true) (hn:(ndi ts (2*m)).n.nm=nm):QaG ts nm=((m:Nat):Int):=by
  have hlen:=f.len
  unfold QaG
  split
  · rename_i j h2
    have:=List.find?_some h2
    unfold fitT at this
    simp only [Bool.and_eq_true,decide_eq_true_eq,beq_iff_eq] at this
    have:=f.nms j m (by omega) (by omega) this.1.2 hu (this.2.trans hn.symm)
    omega
  · rename_i h2
    have:=List.find?_eq_none.1 h2 m (List.mem_range.2 (by omega))
    unfold fitT at this
    rw [decide_eq_true hm,hu,hn,beq_self_eq_true] at this
    exact absurd rfl this
def Qiz (ts : List NdV) (nd:NdV) (m:Nat) (R:List NdV):Prop:=(∀ x,named R x↔named ts x∨x=nd.n.nm)∧¬ named ts nd.n.nm∧2*m<R.length∧(ndi R (2*m)).n.us=true∧(ndi R (2*m)).n.nm=nd.n.nm
theorem QgK {ts R:List NdV} {L K m:Nat} {nd:NdV} (hl:ts.length+1=2*L) (hR:R.length+1=2*K) (hK:L≤K) (hm:m<K) (hu:nd.n.us=true) (hn:∀ j,j<L→(ndi ts (2*j)).n.us=true→(ndi ts (2*j)).n.nm≠nd.n.nm)
    (hfree:∀ j,j<L→(ndi ts (2*j)).n.us=true→j≠m) (e0:(ndi R (2*m)).n=nd.n) (e1:∀ j,j<L→j≠m→(ndi R (2*j)).n=(ndi ts (2*j)).n) (e2:∀ j,L≤j→j<K→j≠m→(ndi R (2*j)).n.us=false):Qiz ts nd m R:=by
  refine ⟨fun x=>⟨?_,?_⟩,?_,by omega,by rw [e0]; exact hu,by rw [e0]⟩
  · rintro ⟨j,h1,h2,h3⟩
    by_cases e:j=m
    · subst e; rw [e0] at h3; exact .inr h3.symm
    · rcases Nat.lt_or_ge j L with q | q
      · rw [e1 j q e] at h2 h3; exact .inl ⟨j,by omega,h2,h3⟩
      · rw [e2 j q (by omega) e] at h2; cases h2
  · rintro (⟨j,h1,h2,h3⟩ | rfl)
    · have hj:j<L:=by omega
      have e:=hfree j hj h2
      exact ⟨j,by omega,by rw [e1 j hj e]; exact h2,by rw [e1 j hj e]; exact h3⟩
    · exact ⟨m,by omega,by rw [e0]; exact hu,by rw [e0]⟩
  · rintro ⟨j,h1,h2,h3⟩
    exact hn j (by omega) h2 h3
theorem Qgq {n : NdC} (hs:QaO n=true):n.us=true:=by
  unfold QaO at hs
  simp only [Bool.and_eq_true] at hs
  exact hs.1.1.1
theorem Qha {ts : List NdV} {L m:Nat} {nd:NdV} (f:Form ts L) (hm:m<L) (hf:(ndi ts (2*m)).n.us=false) (hs:QaO nd.n=true) (hn:∀ j,j<L→(ndi ts (2*j)).n.us=true→(ndi ts (2*j)).n.nm≠nd.n.nm):Qiz ts nd m (addT ts m nd L):=by
  have hlen:=f.len
  unfold addT
  rw [if_pos (by omega)]
  obtain ⟨F,ev⟩:=QdK f hm hf hs hn
  exact QgK hlen F.len (qR _) hm (Qgq hs) hn (fun j _ hu e=>by rw [e,hf] at hu; cases hu) (by rw [ev m hm,if_pos rfl]) (fun j hj e=>by rw [ev j hj,if_neg e]) (fun j h1 h2=>absurd h2 (by omega))
theorem QgZ {ts : List NdV} {L:Nat} {nd:NdV} (f:Form ts L) (h16:L≤16) (hs:QaO nd.n=true) (hn:∀ j,j<L→(ndi ts (2*j)).n.us=true→(ndi ts (2*j)).n.nm≠nd.n.nm):Qiz ts nd L (addT ts L nd (2*L)):=by
  have hlen:=f.len
  have h1:1≤L:=by have:=Qav f.tr; omega
  unfold addT
  rw [if_neg (by omega)]
  have D:=f.dbl h16
  have az:∀ x,ts.length≤x→x<2*ts.length+1→ndi (ts++List.replicate (ts.length+1) zn) x=zn:=fun x hx hx2=>by rw [Qbq,if_neg (by omega),QbD zn (by omega)]
  have hf:(ndi (ts++List.replicate (ts.length+1) zn) (2*L)).n.us=false:=by rw [az _ (by omega) (by omega)]; rfl
  obtain ⟨F,ev⟩:=QdK (nd:=nd) D (show L<2*L by omega) hf hs (fun j hj hu=>by
    rcases Nat.lt_or_ge (2*j) ts.length with q | q
    · rw [Qbq,if_pos q] at hu ⊢
      exact hn j (by omega) hu
    · rw [az _ q (by omega)] at hu; cases hu)
  exact QgK hlen F.len (by omega) (by omega) (Qgq hs) hn (fun j h _ e=>by omega) (by rw [ev L (by omega),if_pos rfl]) (fun j hj e=>by rw [ev j (by omega),if_neg e,Qbq,if_pos (by omega)]) (fun j h1 h2 e=>by rw [ev j h2,if_neg e,az _ (by omega) (by omega)]; rfl)
theorem Qf6 {x : Int}:∀ (k:Nat) (rs:List NdV) (L:Nat),Form rs L→anyU rs 0=true→(named (cutT k rs) x↔named rs x)
  | 0,rs,L,f,h=>Iff.rfl
  | k+1,rs,L,f,h=>by
    have hL:=Qbx (Qcf f.tr f.len)
    cases hu:anyU rs (L/2) with
    | true=>rw [QdL hL hu]
    | false =>
      have h2:2≤L∧L%2=0:=by
        have:=Qav f.tr
        rcases (show L=1∨(2≤L∧L%2=0) by omega) with e | e
        · subst e; rw [show 1/2=0 from rfl,h] at hu; cases hu
        · exact e
      obtain ⟨j,rfl⟩:∃ j,L=2*j:=⟨L/2,by omega⟩
      have hlen:=f.len
      rw [Qdg hL (Nat.succ_pos _) hu]
      show named (cutT k (rs.take (rs.length/2))) x↔named rs x
      have ht:=Qdi f.len h2.2 h hu
      have hq:rs.length/2=2*j-1:=by omega
      rw [hq] at ht ⊢
      have ih:=Qf6 (x:=x) k (rs.take (2*j-1)) j (f.half (by omega)) ht
      rw [ih]
      constructor
      · rintro ⟨i,h1,h2,h3⟩
        rw [List.length_take] at h1
        rw [Qb3 (by omega)] at h2 h3
        exact ⟨i,by omega,h2,h3⟩
      · rintro ⟨i,h1,h2,h3⟩
        have hi:i<j:=by
          rcases Nat.lt_or_ge i j with q | q
          · exact q
          · rw [QbK.2 ⟨i,by omega,h1,h2⟩] at hu; cases hu
        exact ⟨i,by rw [List.length_take]; omega,by rw [Qb3 (by omega)]; exact h2,by rw [Qb3 (by omega)]; exact h3⟩
theorem QhS {ts : List NdV} {L m j:Nat} (f:Form ts L) (hm:m<L) (hu:(ndi ts (2*m)).n.us=true) (hj:j<L) (hjm:j≠m) (huj:(ndi ts (2*j)).n.us=true) (x:Int):named (remT ts m L) x↔named ts x∧x≠(ndi ts (2*m)).n.nm:=by
  have hlen:=f.len
  have hl:(ts.set (2*m) zn).length=ts.length:=List.length_set ..
  have ev:∀ j,j<L→ndi (blkT (ts.set (2*m) zn) (2*((m:Nat):Int)) ((L:Nat):Int)) (2*j)=if j=m then zn else ndi ts (2*j):=fun j hj=>by
    rw [Qdh,QaC zn (by omega)]
    by_cases e:j=m
    · rw [if_pos (by omega),if_pos e]
    · rw [if_neg (by omega),if_neg e]
  have od:∀ x,x<ts.length→x%2=1→ndi (blkT (ts.set (2*m) zn) (2*((m:Nat):Int)) ((L:Nat):Int)) x=if abv ((x:Nat):Int) (2*((m:Nat):Int)) ((L:Nat):Int)=true then zn else ndi ts x:=fun x hx ho=>by
    rw [QgF f.tr (by omega) hm (by omega) ho,QaC zn (by omega),if_neg (show x≠2*m by omega)]
  have F:Form (blkT (ts.set (2*m) zn) (2*((m:Nat):Int)) ((L:Nat):Int)) L:=f.upd (nd:=zn.n) hm (by rw [Qcv,hl]) (fun q=>by cases q) (fun _=>rfl) (fun q=>by cases q) (by rw [ev m hm,if_pos rfl]) (fun x hx ho ha=>by rw [od x hx ho,if_pos ha]) (fun x hx ho ha=>by rw [od x hx ho,if_neg (by rw [ha]; decide)]) (fun j hj hjm=>by rw [ev j hj,if_neg hjm])
  have hF:=F.len
  have e:=Qf6 (x:=x) ts.length _ L F (QbK.2 ⟨j,Nat.zero_le _,by rw [Qcv,hl]; omega,by rw [ev j hj,if_neg hjm]; exact huj⟩)
  refine Iff.trans e ⟨?_,?_⟩
  · rintro ⟨i,h1,h2,h3⟩
    have hi:i<L:=by omega
    rw [ev i hi] at h2 h3
    by_cases q:i=m
    · rw [if_pos q] at h2; cases h2
    · rw [if_neg q] at h2 h3
      exact ⟨⟨i,by omega,h2,h3⟩,fun z=>q (f.nms i m hi hm h2 hu (h3.trans z))⟩
  · rintro ⟨⟨i,h1,h2,h3⟩,hx⟩
    have hi:i<L:=by omega
    have q:i≠m:=fun q=>hx (by rw [←h3,q])
    exact ⟨i,by omega,by rw [ev i hi,if_neg q]; exact h2,by rw [ev i hi,if_neg q]; exact h3⟩
def Nms (ts : List NdV) (ks:List Int):Prop:=ks.Nodup∧∀ x,x∈ks↔named ts x
theorem Nms.start {ts : List NdV} {L:Nat} (f:Form ts L):Nms ts (QaT ts L):=by
  have hlen:=f.len
  refine ⟨QbW.2 f.nms,fun x=>Qc6.trans ⟨?_,?_⟩⟩
  · rintro ⟨j,h1,h2,h3⟩; exact ⟨j,by omega,h2,h3⟩
  · rintro ⟨j,h1,h2,h3⟩; exact ⟨j,by omega,h2,h3⟩
theorem Nms.add {ts R:List NdV} {ks:List Int} {nd:NdV} {m:Nat} (h:Nms ts ks) (a:Qiz ts nd m R):Nms R (ks++[nd.n.nm]):=by
  refine ⟨QcH h.1 fun q=>a.2.1 ((h.2 _).1 q),fun x=>?_⟩
  rw [List.mem_append,List.mem_singleton,h.2,a.1]
theorem Nms.rem {ts R:List NdV} {ks:List Int} {g:Int} (h:Nms ts ks) (a:∀ x,named R x↔named ts x∧x≠g):Nms R (ks.filter (· != g)):=by
  refine ⟨h.1.filter _,fun x=>?_⟩
  rw [List.mem_filter,h.2,a]
  simp
theorem Nms.c {us ts:List NdV} {ks:List Int} (h:Nms ts ks) (e:AsC us ts):Nms us ks:=⟨h.1,fun x=>(h.2 x).trans (Qkw e x).symm⟩
theorem QeT : ∀ {xs ys:List Int},xs.Nodup→(∀ x∈xs,x∈ys)→xs.length≤ys.length
  | [],_,_,_=>Nat.zero_le _
  | x::r,ys,h,hs=>by
    have hx:x∈ys:=hs x (by simp)
    have hn:=List.nodup_cons.1 h
    have:=QeT (ys:=ys.erase x) hn.2 fun z hz=>(List.mem_erase_of_ne (fun e=>by rw [e] at hz; exact hn.1 hz)).2 (hs z (List.mem_cons_of_mem _ hz))
    rw [List.length_erase_of_mem hx] at this
    have:=List.length_pos_of_mem hx
    rw [List.length_cons]; omega
theorem QdR (ts : List NdV):∀ k,(QaT ts k).length=(QaD ts k).length
  | 0=>rfl
  | k+1=>by
    unfold QaT QaD
    split
    · rw [List.length_append,List.length_append,QdR ts k]; rfl
    · exact QdR ts k
theorem Nms.len {ts : List NdV} {ks:List Int} {L:Nat} (f:Form ts L) (h:Nms ts ks):(QaD ts L).length=ks.length:=by
  have s:=Nms.start f
  rw [←QdR]
  exact Nat.le_antisymm (QeT s.1 fun x hx=>(h.2 x).2 ((s.2 x).1 hx)) (QeT h.1 fun x hx=>(s.2 x).2 ((h.2 x).1 hx))
def nmz (ts : List NdV) (z:Nat):Int:=(nod ts z).n.nm
theorem Qfo (ts : List NdV):∀ k,2*k≤ts.length+1→(QaD ts k).map (nmz ts)=QaT ts k
  | 0,_=>rfl
  | k+1,h=>by
    have ih:=Qfo ts k (by omega)
    unfold QaT QaD
    split
    · rw [List.map_append,ih]
      show _++[nmz ts k]=_
      unfold nmz
      rw [Qf4 (by omega)]
    · exact ih
def IntV (ms : List (Int×Value)):Prop:=∀ p∈ms,∃ v:Int,p.2=.int .i64 v
theorem IntV.get {ms : List (Int×Value)} (h:IntV ms) (n:Int):∃ v:Int,mget ms n (.int .i64 0)=.int .i64 v:=by
  unfold mget
  cases hf:ms.find? (fun p=>p.1==n) with
  | none=>exact ⟨0,rfl⟩
  | some p=>exact h p (List.mem_of_find?_eq_some hf)
theorem IntV.snoc {ms : List (Int×Value)} (h:IntV ms) (n v:Int):IntV (ms++[(n,.int .i64 v)]):=fun p hp=>by
  rcases List.mem_append.1 hp with q | q
  · exact h p q
  · rw [List.mem_singleton.1 q]; exact ⟨v,rfl⟩
theorem IntV.set {ms : List (Int×Value)} (h:IntV ms) (n v:Int):IntV (mset ms n (.int .i64 v)):=fun p hp=>by
  obtain ⟨q,hq,rfl⟩:=List.mem_map.1 hp
  split
  · exact ⟨v,rfl⟩
  · exact h q hq
def Cnt (nm : Nat→Int) (g:Nat) (pre:List Nat) (W:World):Prop:=∃ ms,MpAt g ms W∧IntV ms∧((pre.map nm).Nodup→ms=(pre.map nm).map tmv)
theorem Cnt.keep {nm : Nat→Int} {g:Nat} {pre:List Nat} {W W':World} (h:Cnt nm g pre W) (e:W'.heap[g]? = W.heap[g]?):Cnt nm g pre W':=by
  obtain ⟨ms,h1,h2⟩:=h
  exact ⟨ms,h1.keep e,h2⟩
theorem Cnt.lt {nm : Nat→Int} {g:Nat} {pre:List Nat} {W:World} (h:Cnt nm g pre W):g<W.heap.size:=by
  obtain ⟨ms,h1,-⟩:=h
  exact h1.lt
theorem Cnt.ne {nm : Nat→Int} {g k:Nat} {pre:List Nat} {W:World} {cs:Array Value} {T:TypeId} (h:Cnt nm g pre W) (r:W.heap[k]? = some (.cells cs T)):k≠g:=by
  obtain ⟨ms,h1,-⟩:=h
  exact h1.ne r
theorem Cnt.step {nm : Nat→Int} {g:Nat} {pre:List Nat} {W:World} (h:Cnt nm g pre W) (z:Nat):∃ ms,MpAt g ms W∧∃ v:Int,mget ms (nm z) (.int .i64 0)=.int .i64 v ∧
    ((nm z∉ms.map Prod.fst∧∀ W',MpAt g (ms++[(nm z,.int .i64 (IntKind.i64.wrap (v+1)))]) W'→Cnt nm g (pre++[z]) W')∨(nm z∈ms.map Prod.fst∧∀ W',MpAt g (mset ms (nm z) (.int .i64 (IntKind.i64.wrap (v+1)))) W'→Cnt nm g (pre++[z]) W')):=by
  obtain ⟨ms,h1,h2,h3⟩:=h
  obtain ⟨v,hv⟩:=h2.get (nm z)
  refine ⟨ms,h1,v,hv,?_⟩
  by_cases q:nm z∈ms.map Prod.fst
  · refine .inr ⟨q,fun W' hW=>⟨_,hW,h2.set _ _,fun hd=>?_⟩⟩
    rw [List.map_append] at hd
    have hd:=List.nodup_append.1 hd
    have e:=h3 hd.1
    rw [e,QdU] at q
    exact absurd rfl (hd.2.2 _ q _ (by simp))
  · refine .inl ⟨q,fun W' hW=>⟨_,hW,h2.snoc _ _,fun hd=>?_⟩⟩
    rw [List.map_append] at hd ⊢
    have e:=h3 (List.nodup_append.1 hd).1
    rw [e] at hv q ⊢
    rw [QdU] at q
    rw [Qfr q] at hv
    simp only [Value.int.injEq,true_and] at hv
    subst hv
    rw [List.map_append]; rfl
end Go.Proofs.YtcmaolmofgmkhaaDoor.Te
end
section
namespace Go.Proofs.YtcmaolmofgmkhaaDoor.Te
open Go Go.RowKit
open Rely Auto Own Seat Sha
theorem Qlu {xs : List Int} (h:xs.Pairwise (· < ·)) (hb:∀ j∈xs,0≤j∧j<32):xs.length≤32:=by
  have key:∀ k:Nat,k<xs.length→((k:Nat):Int)≤nth xs k:=by
    intro k
    induction k with
    | zero=>intro hk; have:=hb _ (Qj1 hk); omega
    | succ k ih=>intro hk; have:=ih (by omega); have:=Qlv h (k+1) hk k (by omega); omega
  rcases Nat.lt_or_ge 32 xs.length with q | q
  · have h1:=key 32 q
    have h2:=hb _ (Qj1 q)
    omega
  · exact q
theorem Form.small {ts : List NdV} {L:Nat} (f:Form ts L):ts.length≤63∧Rise 32 ts:=by
  have hlen:=f.len
  have hT:=Qav f.tr
  refine ⟨by omega,fun j hj=>?_⟩
  have nil:(ndi ts j).n.ms=[]→(ndi ts j).n.ms.Pairwise (·≤·)∧(ndi ts j).n.ms.length≤32:=fun e=>by rw [e]; exact ⟨List.Pairwise.nil,by decide⟩
  cases hu:(ndi ts j).n.us with
  | false=>exact nil (by rw [f.zero j hj hu]; rfl)
  | true =>
    by_cases ho:j%2=1
    · have h:=f.ms_lt hj ho hu
      exact ⟨h.1.imp fun q=>Int.le_of_lt q,Qlu h.1 fun x hx=>⟨(h.2 x hx).1,(h.2 x hx).2.1⟩⟩
    · have e:j=2*(j/2):=by omega
      have h:=f.leaf (j/2) (by omega) (by rw [←e]; exact hu)
      rw [←e] at h
      unfold QaO at h
      simp only [Bool.and_eq_true,beq_iff_eq] at h
      exact nil (List.length_eq_zero_iff.1 h.1.1.2)
def Qme (ts : List NdV) (n b:Int):Prop:=(∀ (us:List NdV) (a:Option Addr) (c B:Nat) (w:World),AsC us ts→TrAt B w a us→TabAt w→Calls Tryd.prog 29 #[.slice a us.length c,.int .i64 n] w (Ret w (.tuple #[.slice none 0 0,.iface 30 (.int .i64 b)])))∧∀ (a:Option Addr) (c B:Nat) (w:World),TrAt B w a ts→Calls Tryd.prog 30 #[.slice a ts.length c,.int .i64 n] w (Ret w (.tuple #[.slice none 0 0,.int .i64 b]))
def QlH (ts : List NdV) (n:Int) (R:List NdV):Prop:=(∀ (us:List NdV) (a:Option Addr) (c B:Nat) (w:World),AsC us ts→TrAt B w a us→TabAt w→Calls Tryd.prog 29 #[.slice a us.length c,.int .i64 n] w (QbH w (fun v W=>∃ rs,AsC rs R∧∃ u,v=.tuple #[u,.nilIface]∧FrT w.heap.size rs u W)))∧∀ (a:Option Addr) (c B:Nat) (w:World),TrAt B w a ts→Calls Tryd.prog 30 #[.slice a ts.length c,.int .i64 n] w (QbH w (fun v W=>∃ rs,AsC rs R∧∃ u,v=.tuple #[u,.int .i64 0]∧FrT w.heap.size rs u W))
def Qmf (ts : List NdV) (n:Int) (R:List NdV):Prop:=∃ m:Nat,n=((m:Nat):Int)∧(ndi ts (2*m)).n.us=true∧∀ x,named R x↔named ts x∧x≠(ndi ts (2*m)).n.nm
theorem Qko (ts : List NdV) (htl:ts.length≤71) (hmt:∀ i,i<ts.length→(ndi ts i).n.ms.length≤50) (n:Int):(∃ b:Int,(b=3∨b=9)∧Qme ts n b)∨∃ R,(QfH R∧Qmf ts n R)∧QlH ts n R:=by
  have htl2:ts.length≤100000:=by omega
  have hmt2:∀ i,i<ts.length→(ndi ts i).n.ms.length≤1000:=fun i hi=>qT (hmt i hi) (by decide)
  have hul:∀ us:List NdV,AsC us ts→us.length≤100000:=fun us h=>by rw [h.1]; exact htl2
  have hum:∀ us:List NdV,AsC us ts→∀ i,i<us.length→(ndi us i).n.ms.length≤1000:=fun us h i hi=>by rw [h.all]; exact hmt2 i (by rw [←h.1]; exact hi)
  cases hc:chkT ts with
  | false=>exact .inl ⟨3,.inl rfl,fun us a c B w h t hT=>QiK us a c B w t (hul us h) (hum us h) hT ((QcB h).trans hc) n,fun a c B w t=>Qh2 ts a c B w t htl2 hmt2 hc n⟩
  | true =>
    obtain ⟨L,F,hr⟩:=QbG htl2 hc
    have hL:=Qcf F.tr F.len
    have hL3:L≤32:=by have:=Qav F.tr; omega
    have hlen:=F.len
    have hTr:=F.tr
    have hcu:∀ us:List NdV,AsC us ts→chkT us=true:=fun us h=>(QcB h).trans hc
    have hLu:∀ us:List NdV,AsC us ts→leaves ((us.length:Nat):Int)=((L:Nat):Int):=fun us h=>by rw [h.1]; exact hL
    have hlu:∀ us:List NdV,AsC us ts→us.length+1=2*L:=fun us h=>by rw [h.1]; exact hlen
    by_cases h0:n<0
    · exact .inl ⟨9,.inr rfl,fun us a c B w h t hT=>QiO us a c B w t (hul us h) (hum us h) hT (hcu us h) L (hLu us h) hL3 (hlu us h) hTr n h0,fun a c B w t=>Qf0 ts a c B w t htl2 hmt2 hc L hL hL3 hlen hTr n (.inl h0)⟩
    · by_cases h1:((L:Nat):Int)≤n
      · exact .inl ⟨9,.inr rfl,fun us a c B w h t hT=>QiN us a c B w t (hul us h) (hum us h) hT (hcu us h) L (hLu us h) hL3 (hlu us h) hTr n (by omega) h1,fun a c B w t=>Qf0 ts a c B w t htl2 hmt2 hc L hL hL3 hlen hTr n (.inr h1)⟩
      · obtain ⟨m,rfl⟩:=Int.eq_ofNat_of_zero_le (show 0≤n by omega)
        have hm:m<L:=by omega
        cases hus:(ndi ts (2*m)).n.us with
        | false=>exact .inl ⟨9,.inr rfl,fun us a c B w h t hT=>QiM us a c B w t (hul us h) (hum us h) hT (hcu us h) L (hLu us h) hL3 (hlu us h) hTr m hm (by rw [h.all]; exact hus),fun a c B w t=>Qh4 ts a c B w t htl2 hmt2 hc L hL hL3 hlen hTr m hm hus⟩
        | true =>
          cases hal:((((QaD ts L).length:Nat):Int)==1) with
          | true=>exact .inl ⟨9,.inr rfl,fun us a c B w h t hT=>QiL us a c B w t (hul us h) (hum us h) hT (hcu us h) L (hLu us h) hL3 (hlu us h) hTr m hm (by rw [h.all]; exact hus) (by rw [Qdl h]; exact hal),fun a c B w t=>Qh3 ts a c B w t htl2 hmt2 hc L hL hL3 hlen hTr m hm hus hal⟩
          | false =>
            obtain ⟨j,hj,hjm⟩:=Qf3 (Qcn ts L) (QbN.2 ⟨hm,hus⟩) (fun e=>by rw [e] at hal; cases hal)
            obtain ⟨j1,j2⟩:=QbN.1 hj
            refine .inr ⟨remT ts m L,⟨QkM F hm j1 hjm j2,m,rfl,hus,fun x=>QhS F hm hus j1 hjm j2 x⟩,fun us a c B w h t hT=>(QeR us a c B w t (hul us h) (hum us h) hT (hcu us h) L (hLu us h) hL3 (hlu us h) hTr m hm (by rw [h.all]; exact hus) (by rw [Qdl h]; exact hal)).mono ?_,fun a c B w t=>(Qh1 ts a c B w t htl2 hmt2 hc L hL hL3 hlen hTr m hm hus hal).mono ?_⟩
            · rintro e W ⟨v,h1,h2,us2,rs,q1,q2,u,e2,q3,q4,q5⟩
              exact ⟨v,h1,h2,rs,by rw [q2]; exact (q1.trans h).remT m L,u,by rw [q3,q4],q5⟩
            · rintro e W ⟨v,h1,h2,us2,rs,q1,q2,u,q3,q5⟩
              exact ⟨v,h1,h2,rs,by rw [q2]; exact q1.remT m L,u,q3,q5⟩
end Go.Proofs.YtcmaolmofgmkhaaDoor.Te
end
section
namespace Go.Proofs.YtcmaolmofgmkhaaDoor.Te
open Go Go.RowKit
open Rely Auto Own Seat Sha
theorem QkI {ts : List NdV} {nm:Int} (h:QaG ts nm<0) {j:Nat} (hj:2*j<ts.length) (hu:(ndi ts (2*j)).n.us=true):(ndi ts (2*j)).n.nm≠nm:=fun e=>by
  unfold QaG at h
  split at h
  · omega
  · rename_i h2
    have:=List.find?_eq_none.1 h2 j (List.mem_range.2 (by omega))
    unfold fitT at this
    rw [decide_eq_true hj,hu,e,beq_self_eq_true] at this
    exact this rfl
theorem Qii {ts : List NdV} {nm:Int} {m:Nat} (h:QaG ts nm=((m:Nat):Int)):(ndi ts (2*m)).n.us=true∧(ndi ts (2*m)).n.nm=nm∧2*m<ts.length:=by
  unfold QaG at h
  split at h
  · rename_i j h2
    obtain rfl:j=m:=by omega
    have:=List.find?_some h2
    unfold fitT at this
    simp only [Bool.and_eq_true,decide_eq_true_eq,beq_iff_eq] at this
    exact ⟨this.1.2,this.2,this.1.1⟩
  · omega
structure QgL (nd : NdV) (w : World) : Prop where
  rd:∃ B,RdK .i64 B nd.n.ms (.slice nd.a nd.n.ms.length nd.c) w
end Go.Proofs.YtcmaolmofgmkhaaDoor.Te
end
section
namespace Go.Proofs.YtcmaolmofgmkhaaDoor.Te
open Go Go.RowKit
open Rely Auto Own Seat Sha
theorem QkG {ts : List NdV} (L:Nat):(Qc9 ts L=L∧∀ j,j<L→(ndi ts (2*j)).n.us=true)∨∃ m,m<L∧Qc9 ts L=m∧(ndi ts (2*m)).n.us=false∧∀ j,j<m→(ndi ts (2*j)).n.us=true:=by
  have key:∀ k,k≤L→(∀ j,j<k→(ndi ts (2*j)).n.us=true)∨∃ m,m<k∧(ndi ts (2*m)).n.us=false∧∀ j,j<m→(ndi ts (2*j)).n.us=true:=by
    intro k
    induction k with
    | zero=>exact fun _=>.inl fun j hj=>absurd hj (Nat.not_lt_zero _)
    | succ k ih =>
      intro hk
      rcases ih (by omega) with h | ⟨m,h1,h2,h3⟩
      · cases hu:(ndi ts (2*k)).n.us with
        | true=>exact .inl fun j hj=>by by_cases e:j=k; (rw [e]; exact hu); exact h j (by omega)
        | false=>exact .inr ⟨k,by omega,hu,h⟩
      · exact .inr ⟨m,by omega,h2,h3⟩
  rcases key L (qR _) with h | ⟨m,h1,h2,h3⟩
  · exact .inl ⟨Qig h,h⟩
  · exact .inr ⟨m,h1,Qg8 h1 h2 h3,h2,h3⟩
def Qmh (ts : List NdV) (nd:NdV) (b:Int):Prop:=(∀ (us:List NdV) (a:Option Addr) (c B:Nat) (w:World),AsC us ts→TrAt B w a us→TabAt w→QgL nd w→Calls Tryd.prog 25 #[.slice a us.length c,.agg (cat (ndP nd))] w (Ret w (.tuple #[.slice none 0 0,.int .i64 0,.iface 30 (.int .i64 b)])))∧∀ (a:Option Addr) (c B:Nat) (w:World),TrAt B w a ts→QgL nd w→Calls Tryd.prog 26 #[.slice a ts.length c,.agg (cat (ndP nd))] w (Ret w (.tuple #[.slice none 0 0,.int .i64 0,.int .i64 b]))
def QlK (ts : List NdV) (nd:NdV) (m:Nat) (R:List NdV):Prop:=(∀ (us:List NdV) (a:Option Addr) (c B:Nat) (w:World),AsC us ts→TrAt B w a us→TabAt w→QgL nd w→Calls Tryd.prog 25 #[.slice a us.length c,.agg (cat (ndP nd))] w (QbH w (fun v W=>∃ rs,AsC rs R∧∃ u,v=.tuple #[u,.int .i64 ((m:Nat):Int),.nilIface]∧FrT w.heap.size rs u W)))∧∀ (a:Option Addr) (c B:Nat) (w:World),TrAt B w a ts→QgL nd w→Calls Tryd.prog 26 #[.slice a ts.length c,.agg (cat (ndP nd))] w (QbH w (fun v W=>∃ rs,AsC rs R∧∃ u,v=.tuple #[u,.int .i64 ((m:Nat):Int),.int .i64 0]∧FrT w.heap.size rs u W))
theorem QkV (ts : List NdV) (htl:ts.length≤71) (hmt:∀ i,i<ts.length→(ndi ts i).n.ms.length≤50) (nd:NdV) (hok:NdOk nd.n) (hml:nd.n.ms.length≤50):(∃ b:Int,(b=3∨b=5∨b=9)∧Qmh ts nd b)∨∃ (m:Nat) (R:List NdV),(QfH R∧Qiz ts nd m R)∧QlK ts nd m R:=by
  have htl2:ts.length≤100000:=by omega
  have hmt2:∀ i,i<ts.length→(ndi ts i).n.ms.length≤1000:=fun i hi=>qT (hmt i hi) (by decide)
  have hul:∀ us:List NdV,AsC us ts→us.length≤100000:=fun us h=>by rw [h.1]; exact htl2
  have hum:∀ us:List NdV,AsC us ts→∀ i,i<us.length→(ndi us i).n.ms.length≤1000:=fun us h i hi=>by rw [h.all]; exact hmt2 i (by rw [←h.1]; exact hi)
  cases hc:chkT ts with
  | false=>exact .inl ⟨3,.inl rfl,fun us a c B w h t hT _=>Qmd us a c B w t (hul us h) (hum us h) hT nd hok ((QcB h).trans hc),fun a c B w t ⟨⟨B2,rd⟩⟩=>Qlq ts a c B w t htl2 hmt2 nd hok B2 rd hc⟩
  | true =>
    obtain ⟨L,F,hr⟩:=QbG htl2 hc
    have hL:=Qcf F.tr F.len
    have hLc:=Qav F.tr
    have hL3:L≤32:=by omega
    have hlen:=F.len
    have hTr:=F.tr
    have hcu:∀ us:List NdV,AsC us ts→chkT us=true:=fun us h=>(QcB h).trans hc
    have hLu:∀ us:List NdV,AsC us ts→leaves ((us.length:Nat):Int)=((L:Nat):Int):=fun us h=>by rw [h.1]; exact hL
    have hlu:∀ us:List NdV,AsC us ts→us.length+1=2*L:=fun us h=>by rw [h.1]; exact hlen
    have hri:Rise 900 ts:=fun j hj=>⟨(F.small.2 j hj).1,qT (F.small.2 j hj).2 (by decide)⟩
    have hm9:∀ i,i<ts.length→(ndi ts i).n.ms.length≤900:=fun i hi=>(hri i hi).2
    cases hs:QaO nd.n with
    | false=>exact .inl ⟨3,.inl rfl,fun us a c B w h t hT _=>Qmb us a c B w t (hul us h) (hum us h) hT nd hok (hcu us h) hs,fun a c B w t ⟨⟨B2,rd⟩⟩=>Qlo ts a c B w t htl2 hmt2 nd hok B2 rd hc hs⟩
    | true =>
      have hms:nd.n.ms=[]:=by
        unfold QaO at hs
        simp only [Bool.and_eq_true,beq_iff_eq] at hs
        exact List.length_eq_zero_iff.1 hs.1.1.2
      have hpw:nd.n.ms.Pairwise (·≤·):=by rw [hms]; exact List.Pairwise.nil
      by_cases hf:QaG ts nd.n.nm<0
      · have hfu:∀ us:List NdV,AsC us ts→QaG us nd.n.nm<0:=fun us h=>by rw [Qdy h]; exact hf
        have hnn:∀ j,j<L→(ndi ts (2*j)).n.us=true→(ndi ts (2*j)).n.nm≠nd.n.nm:=fun j hj hu=>QkI hf (by omega) hu
        rcases QkG (ts:=ts) L with ⟨h1,h2⟩ | ⟨m,h1,h2,h3,h4⟩
        · by_cases h32:L=32
          · exact .inl ⟨5,.inr (.inl rfl),fun us a c B w h t hT _=>Qma us a c B w t (hul us h) (hum us h) hT nd hok (hcu us h) hs L (hLu us h) hL3 (hlu us h) (hfu us h) (by rw [Qdx h,h1]; exact h32),fun a c B w t ⟨⟨B2,rd⟩⟩=>Qln ts a c B w t htl2 hmt2 nd hok B2 rd hc hs hf L hL hL3 hlen h32 h2⟩
          · have h16:L≤16:=by omega
            obtain ⟨T0,hT0⟩:∃ z,z=ts++List.replicate (ts.length+1) zn:=⟨_,rfl⟩
            have F0:Form T0 (2*L):=hT0▸F.dbl h16
            have hz:∀ i,ts.length≤i→(ndi T0 i).n.us=false∧(ndi T0 i).n.ms.length≤900:=fun i hi=>by
              rw [hT0,Qbq,if_neg (by omega)]
              rcases Nat.lt_or_ge (i-ts.length) (ts.length+1) with q | q
              · rw [QbD zn q]; exact ⟨rfl,by decide⟩
              · unfold ndi; rw [List.getD_eq_getElem?_getD,List.getElem?_eq_none (by simpa using q)]; exact ⟨rfl,by decide⟩
            refine .inr ⟨L,addT ts L nd (2*L),⟨Qjo F h16 hs hnn,QgZ F h16 hs hnn⟩,fun us a c B w h t hT ⟨⟨B2,rd⟩⟩=>(QkU us a c B w t (hul us h) (hum us h) hT nd hok (hcu us h) hs L (hLu us h) hL3 (hlu us h) hTr (hfu us h) L (by rw [Qdx h]; exact h1) rfl h32 (by omega) hpw (h.rise hri) B2 rd).mono ?_,fun a c B w t ⟨⟨B2,rd⟩⟩=>(Qlr ts a c B w t htl2 hmt2 nd hok hc hs hf L hL h16 hlen (by omega) T0 hT0 F0 L rfl h2 (hz _ (by omega)).1 (fun i=>?_) hms B2 (by rw [hms] at rd; exact rd)).mono ?_⟩
            · rintro e W ⟨v,q1,q2,us2,rs,n5,q3,q4,q5,a2,c2,q6,q7⟩
              exact ⟨v,q1,q2,rs,q5.trans ((q3.trans h).addT L (2*L) q4),_,q6,q7.fr⟩
            · rcases Nat.lt_or_ge i ts.length with q | q
              · rw [hT0,Qbq,if_pos q]; exact hm9 i q
              · exact (hz i q).2
            · rintro e W ⟨v,q1,q2,us2,rs,q3,q5,u,q6,q7⟩
              exact ⟨v,q1,q2,rs,q5.trans (q3.addT L (2*L) rfl),u,q6,q7⟩
        · refine .inr ⟨m,addT ts m nd L,⟨Qjp F hr h1 h3 hs hnn,Qha F h1 h3 hs hnn⟩,fun us a c B w h t hT ⟨⟨B2,rd⟩⟩=>(QlG us a c B w t (hul us h) (hum us h) hT nd hok (hcu us h) hs L (hLu us h) hL3 (hlu us h) hTr (hfu us h) m (by rw [Qdx h]; exact h2) h1 (by omega) hpw (h.rise hri) B2 rd).mono ?_,fun a c B w t ⟨⟨B2,rd⟩⟩=>(Qls ts a c B w t htl2 hmt2 nd hok hc hs hf L hL hL3 hlen hTr F m h1 h4 h3 hm9 hms B2 (by rw [hms] at rd; exact rd)).mono ?_⟩
          · rintro e W ⟨v,q1,q2,us2,rs,n5,q3,q4,q5,a2,c2,q6,q7⟩
            exact ⟨v,q1,q2,rs,q5.trans ((q3.trans h).addT m L q4),_,q6,q7.fr⟩
          · rintro e W ⟨v,q1,q2,us2,rs,q3,q5,u,q6,q7⟩
            exact ⟨v,q1,q2,rs,q5.trans (q3.addT m L rfl),u,q6,q7⟩
      · exact .inl ⟨9,.inr (.inr rfl),fun us a c B w h t hT _=>Qmc us a c B w t (hul us h) (hum us h) hT nd hok (hcu us h) hs L (hLu us h) hL3 (hlu us h) (by rw [Qdy h]; omega),fun a c B w t ⟨⟨B2,rd⟩⟩=>Qlp ts a c B w t htl2 hmt2 nd hok B2 rd hc hs (by omega)⟩
end Go.Proofs.YtcmaolmofgmkhaaDoor.Te
end
section
namespace Go.Proofs.YtcmaolmofgmkhaaDoor.Te
open Go Go.RowKit
open Rely Auto Own Seat Sha
theorem FrT.parts {base : Nat} {us:List NdV} {v:Value} {W:World} (h:FrT base us v W):∃ a c,v=.slice a us.length c∧TrAt W.heap.size W a us∧AvT (fun g=>base≤g) a us:=by
  obtain ⟨a,c,e,h1,h2,-⟩:=h
  exact ⟨a,c,e,h1,h2⟩
theorem Qgr {rs R:List NdV} (h:AsC rs R) (hc:QfH R):rs.length≤63∧(∀ i,i<rs.length→(ndi rs i).n.ms.length≤32)∧chkT rs=true:=by
  obtain ⟨L,F,hr⟩:=hc
  have h2:=F.small
  refine ⟨by rw [h.1]; exact h2.1,fun i hi=>?_,(QcB h).trans (Qgd F hr)⟩
  rw [h.all]
  exact (h2.2 i (by rw [←h.1]; exact hi)).2
end Go.Proofs.YtcmaolmofgmkhaaDoor.Te
end
section
namespace Go.Proofs.YtcmaolmofgmkhaaDoor.Te
open Go Go.RowKit
open Rely Auto Own Seat Sha
structure ChV where
  k:Int
  i:Int
  nd:NdV
def ch0 : ChV:=⟨0,0,nd0⟩
def chi (cs : List ChV) (i:Nat):ChV:=cs.getD i ch0
def chP (c : ChV):List (Array Value):=[#[.int .i64 c.k],#[.int .i64 c.i],#[.bool c.nd.n.us],#[.int .i64 c.nd.n.nm],ints .u8 c.nd.n.key,ints .u8 c.nd.n.sg,ints .u8 c.nd.n.pa,#[.slice c.nd.a c.nd.n.ms.length c.nd.c]]
structure ChAt (w : World) (g off : Nat) (c : ChV) : Prop where
  lt:g<w.heap.size
  cell:∀ j u,(cat (chP c))[j]? = some u→w.cell? ⟨g,off+j,none⟩=some u
  rd:RdK .i64 w.heap.size c.nd.n.ms (.slice c.nd.a c.nd.n.ms.length c.nd.c) w
  ok:NdOk c.nd.n
theorem ChAt.ext {w W:World} {g off:Nat} {c:ChV} (h:ChAt w g off c) (e:Ext w W):ChAt W g off c :=
  ⟨qL h.lt e.size,fun j u hu=>by rw [←h.cell j u hu]; exact World.cell?_of_block (e.block g h.lt),RdK.here (h.rd.ext e),h.ok⟩
def QkY (w : World) (a:Option Addr) (cs:List ChV):Prop:=∃ g o,(0<cs.length→a=some ⟨g,o,none⟩)∧∀ i,i<cs.length→ChAt w g (o+i*101) (chi cs i)
theorem QkY.ext {w W:World} {a:Option Addr} {cs:List ChV} (h:QkY w a cs) (e:Ext w W):QkY W a cs:=by
  obtain ⟨g,o,h1,h2⟩:=h
  exact ⟨g,o,h1,fun i hi=>(h2 i hi).ext e⟩
theorem TrAt.keepP {B : Nat} {p:Nat→Prop} {V W:World} {a:Option Addr} {ts:List NdV} (h:TrAt B V a ts) (q:Qb0 p V W) (hv:AvT (fun g=>¬ p g) a ts):TrAt B W a ts:=by
  obtain ⟨g,o,h1,h2⟩:=h
  refine ⟨g,o,h1,fun i hi=>?_⟩
  have hn:=h2 i hi
  have hg:¬ p g:=hv.1 g o none (by omega) (h1 (by omega))
  refine ⟨hn.lt,qL hn.lt2 q.1,fun j u hu=>q.cell (hn.cell j u hu) hg,?_,hn.ok⟩
  by_cases hne:(ndi ts i).n.ms=[]
  · obtain ⟨a',cap,e,e1,e2,e3,e4⟩:=hn.rd
    exact ⟨a',cap,e,e1,e2,e3,.inl hne⟩
  obtain ⟨a',cap,e,e1,e2,e3,e4⟩:=hn.rd
  refine ⟨a',cap,e,e1,e2,e3,?_⟩
  rcases e4 with e4 | ⟨gm,om,q1,q2,q3,q4⟩
  · exact .inl e4
  · have ha:(ndi ts i).a=some ⟨gm,om,none⟩:=by simp only [Value.slice.injEq] at e; rw [e.1,q1]
    exact .inr ⟨gm,om,q1,q2,qL q3 q.1,fun k hk=>q.cell (q4 k hk) (hv.2 i hi hne gm om none ha)⟩
theorem Qb0.refl (p : Nat→Prop) (W:World):Qb0 p W W:=⟨qR _,fun _ _ _ _ h _=>h⟩
theorem Qb0.puts {p : Nat→Prop} {g:Nat} {V A B:World} (h:Qb0 p V A) (q:Puts A g B) (hg:p g):Qb0 p V B :=
  ⟨qT h.1 (qE q.2.2.2.1.symm),fun k cs t fr r n=>(q.2.2.2.2 k fun e=>n (e▸hg)).trans (h.2 k cs t fr r n)⟩
theorem QdJ {K : Act→World→Prop} {ds:List Deferred} {N:Nat} {L:Env} {W:World} (M:Env) (h:K (Qar ds N (M++L)) W) (ha:Qgg L M):K (Qar ds N L) W:=Qet (ds:=ds) (N:=N) ha▸h
end Go.Proofs.YtcmaolmofgmkhaaDoor.Te
end
section
namespace Go.Proofs.YtcmaolmofgmkhaaDoor.Auto
open Go Go.RowKit
open Rely Own
variable {ds : List Deferred}
theorem Qek {B g:Nat} {W W':World} (p:Puts W g W') (hg:g<B):KeepsFrom B W W':=⟨qE p.2.2.2.1.symm,fun k o hB hk _=>(p.2.2.2.2 k (by omega)).trans hk⟩
theorem Qc8 {B g:Nat} {W W':World} {cs:Array Value} {t:TypeId} (p:Puts W g W') (hc:W.heap[g]? = some (.cells cs t)):KeepsFrom B W W':=(QbF p hc).from B
theorem Qck {gs : List Nat} {g:Nat} {W W':World} {ms:List (Int×Value)} (p:Puts W g W') (h:MpAt g ms W):QaI gs W W' :=
  ⟨qE p.2.2.2.1.symm,fun k cs t fr q _=>(p.2.2.2.2 k (h.ne q)).trans q⟩
theorem QdX {α : Type} {P:Program} {g:Operand} {p q:Tmp} {assign body:Code} {Q:Exit→Act→World→Prop} {N:Nat} {L:Env} {w:World}
    {gf:Nat} {lb:Array Value} (hg:Rely.look (envN N L) g=.func (.func gf) #[] lb) (eg:∀ args w,(callFunc gf args).run P w=.ok (.enter gf args) w)
    {enc enc2:α→Value} {Kp:World→World→Prop} {S Sp:List α→Prop} {M:Nat} {w0:World} (hseq:SeqStopsK Fence.wide 2 P gf lb (fun x=>#[enc x,enc2 x]) Kp S Sp M w0)
    (hKt:∀ {A B C:World},Kp A B→Kp B C→Kp A C) (hKb:∀ (W:World) (l:Nat) (o o':Obj),w.heap.size≤l→W.heap[l]? = some o→o.isCells=false→o.isWalk=false→Kp W (W.putObj l o')) (hb0:Below w0.heap.size w0 w)
    (I:List α→World→Prop) (Ix:Code→List α→World→Prop) (hI:OwnFrom w.heap.size I) (hIx:∀ c,OwnFrom w.heap.size (Ix c)) (h0:I [] w)
    (hKe:∀ {A B:World},Ext A B→Kp A B) (hIe:∀ pre {A B:World},I pre A→Ext A B→I pre B) (hIs:∀ pre W,I pre W→w.heap.size≤W.heap.size)
    (asg:α→Nat→Env) (cs:α→Array Value) (T:TypeId)
    (hassign:∀ (l:Nat) (x:α) (W:World) (K:Act→World→Prop),(∀ g W',W.heap.size≤g→Ext W W'→W'.heap[g]? = some (.cells (cs x) T)→K (Qar [] N (asg x g++L)) W')→assign.wpIn (Fence.wide.inRound l) 1 P (Exit.then K (fun _ _ _=>False)) (Qar [] N ((q,enc2 x)::(p,enc x)::L)) W)
    (hbody:∀ (l:Nat) (pre:List α) (x:α) (g:Nat) (W:World),w.heap.size≤g→I pre W→W.heap[g]? = some (.cells (cs x) T)→pre.length<M→body.wpIn (Fence.wide.inRound l) 1 P (ownPostG w.heap.size Kp I Ix (pre++[x]) W) (Qar [] N (asg x g++L)) W)
    (hdone:∀ (D:Nat) (xs:List α) (W:World),w.heap.size≤D→S xs→I xs W→W.heap[D]? = some (.deferred (some []))→Q .normal (Qar (mark D::ds) N L) W)
    (hstop:∀ (D:Nat) (c:Code) (pre:List α) (W:World),w.heap.size≤D→Sp pre→Ix c pre W→W.heap[D]? = some (.deferred (some []))→c.wp P Q (Qar (mark D::ds) N L) W) :
    (Code.rangeFunc g #[p,q] assign body).wp P Q (Qar ds N L) w:=by
  refine (wpIn_wide (n:=3)).1 ?_
  refine wpIn_rangeFunc_ownH rfl (by omega) (by rw [QaN]; exact hg) trivial eg (w0:=w0) hseq hKt hKb hb0 (fun _=>rfl) I Ix hI hIx h0
    (fun x a' W=>∃ g,a'=Qar [] N (asg x g++L)∧w.heap.size≤g∧W.heap[g]? = some (.cells (cs x) T)) ?_ (fun l pre x W K hi hK=>?_) ?_ ?_ ?_
  · rintro x a' _ X Y row ⟨g,e,hl,r⟩ hgr hr
    exact ⟨g,e,hl,QaL r hgr (fun q e=>(hr q e).2)⟩
  · rw [Qc2]
    refine hassign l x W K fun g W' hg' e r=>hK _ _ ((Qb4 e).from _) (hKe e) (hIe pre hi e) ⟨g,rfl,qT (hIs pre W hi) hg',r⟩
  · rintro l pre x a' W _ _ hi ⟨g,rfl,hl,r⟩ hlen
    exact hbody l pre x g W hl hi r hlen
  · intro D xs W h1 h2 h3 h4
    exact hdone D xs W h1 h2 h3 h4
  · intro D c pre W h1 h2 h3 h4
    exact wpIn_wide.2 (hstop D c pre W h1 h2 h3 h4)
section
variable {P : Program} {fn : Func} {R : Ending → World → Prop} {N : Nat} {L : Env} {w : World}
theorem Qll {D D1:Nat} {r:ResultVar} (v:Value) (hr:fn.results=#[r]) (hD:w.heap[D]? = some (.deferred (some []))) (hD1:(w.putObj D (.deferred none)).heap[D1]? = some (.deferred (some []))) (h:Qcc P ((w.putObj D (.deferred none)).putObj D1 (.deferred none)) N L r v) (k:R (.returned v) ((w.putObj D (.deferred none)).putObj D1 (.deferred none))):bodyPostM Fence.wide 3 P fn R .ret (Qar [mark D,mark D1] N L) w :=
  ⟨by simp,.inl ⟨_,_,rfl,run_takeDeferred hD,⟨by simp,.inl ⟨_,_,rfl,run_takeDeferred hD1,⟨_,Qcd hr h,k⟩⟩⟩⟩⟩
end
theorem Qhi {P : Program} {a b c:Code} {Q:Exit→Act→World→Prop} {x:Act} {w:World} (h:∀ K M:Act→World→Prop,(∀ a w,c.wp P Q a w→K a w)→(∀ a w,b.wp P (Exit.then K Q) a w→M a w)→a.wp P (Exit.then M Q) x w):(a.seq (b.seq c)).wp P Q x w :=
  wp_seq (wp_mono (h (c.wp P Q) (b.wp P (Exit.then (c.wp P Q) Q)) (fun _ _ h=>h) (fun _ _ h=>h)) fun e a w q=>by cases e <;> first | exact q | exact wp_seq q)
section
variable {Fe : Fence} {nf : Nat} {P : Program} {ops : Array Oper} {Q : Exit → Act → World → Prop} {rest : List Oper} {o : Oper} {N : Nat} {L : Env} {w : World}
theorem QkD (m k x:Operand) (t:TypeId) {kt et:TypeId} {mT:Nat} {ms:List (Int×Value)} {n:Int} {v:Value} (ho:o.op=.mapUpdate t m k x) (hm:Rely.look (envN N L) m=.map (some mT)) (hk:Rely.look (envN N L) k=.int .i64 n) (hx:Rely.look (envN N L) x=v)
    (ht:P.underlying t=some (.map kt et)) (hkt:P.underlying kt=some (.int .i64)) (h:MpAt mT ms w) (hn:n∉ms.map Prod.fst) (hd:o.dst=none) (hF:Free Fe nf P) (hnd:QaX o=true) (hg:Qbe ops o N L=some true)
    (kk:∀ W',Puts w mT W'→MpAt mT (ms++[(n,v)]) W'→WLI Fe nf P ops Q rest (Qar ds N L) W'):WLI Fe nf P ops Q (o::rest) (Qar ds N L) w:=by
  obtain ⟨W',r1,r2,r3⟩:=Qgu (ρ:=Rely.look (envN N L)) (o:=o) t m k x ho hm hk hx ht hkt h hn
  exact Qfe W' hd hF hnd hg r1 (kk W' r2 r3)
theorem QkB (m k x:Operand) (t:TypeId) {kt et:TypeId} {mT:Nat} {ms:List (Int×Value)} {n:Int} {v:Value} (ho:o.op=.mapUpdate t m k x) (hm:Rely.look (envN N L) m=.map (some mT)) (hk:Rely.look (envN N L) k=.int .i64 n) (hx:Rely.look (envN N L) x=v)
    (ht:P.underlying t=some (.map kt et)) (hkt:P.underlying kt=some (.int .i64)) (h:MpAt mT ms w) (hn:n∈ms.map Prod.fst) (hd:o.dst=none) (hF:Free Fe nf P) (hnd:QaX o=true) (hg:Qbe ops o N L=some true)
    (kk:∀ W',Puts w mT W'→MpAt mT (mset ms n v) W'→WLI Fe nf P ops Q rest (Qar ds N L) W'):WLI Fe nf P ops Q (o::rest) (Qar ds N L) w:=by
  obtain ⟨W',r1,r2,r3⟩:=Qgt (ρ:=Rely.look (envN N L)) (o:=o) t m k x ho hm hk hx ht hkt h hn
  exact Qfe W' hd hF hnd hg r1 (kk W' r2 r3)
end
section
variable {P : Program} {ops : Array Oper} {Q : Exit → Act → World → Prop} {rest : List Oper} {o : Oper} {N : Nat} {L : Env} {w : World}
theorem QgS (v : Value) (w':World) (hd:o.dst=none) (hg:Qbe ops o N L=some true) (h:(execOp (Rely.look (envN N L)) o).run P w=.ok (.value v) w') (k:WL P ops Q rest (Qar ds N L) w'):WL P ops Q (o::rest) (Qar ds N L) w :=
  Qe3 hg fun K hK=>by
    rw [h]
    show K _ _
    rw [hd,show (Qar ds N L).put none v=Qar ds N L from rfl]
    exact hK _ _ k
theorem QiE (m k:Operand) (t:TypeId) {kt et:TypeId} {g:Nat} {n:Int} {ms:List (Int×Value)} (ho:o.op=.call { callee:=.builtin .delete,args:=#[m,k],argTypes:=#[t,kt] }) (hm:Rely.look (envN N L) m=.map (some g)) (hk:Rely.look (envN N L) k=.int .i64 n)
    (ht:P.underlying t=some (.map kt et)) (hkt:P.underlying kt=some (.int .i64)) (h:MpAt g ms w) (hd:o.dst=none) (hg:Qbe ops o N L=some true)
    (kk:∀ W',Puts w g W'→MpAt g (ms.filter fun p=>p.1 != n) W'→WL P ops Q rest (Qar ds N L) W'):WL P ops Q (o::rest) (Qar ds N L) w:=by
  obtain ⟨W',h1,h2,h3⟩:=QiH (ρ:=Rely.look (envN N L)) (o:=o) m k t ho hm hk ht hkt h
  exact QgS _ _ hd hg h1 (kk W' h2 h3)
end
end Go.Proofs.YtcmaolmofgmkhaaDoor.Auto
end
